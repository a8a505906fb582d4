import PyProof.Rows.All
import Wide.All
import OpenK.AllK
import Wide.FinOn
import HandS.ForMost
import HandS.ForExc
import HandS.Defaults
import KE.KExcSuper
import HandS.ExcInit
import HandS.HeadWalk
import KE.KExcIs
import HandS.ExcValue
import HandS.ExcField
import HandS.IsInst
import HandS.Walk
import HandS.CallLocal
import KE.KCallOwn
import OpenK.KOps
import HandS.Property
import HandS.ClsMeth
import HandS.HeadHook1
import HandS.HeadHook2
import HandS.Head0
import HandS.Head1
import HandS.Head2
import HandS.HeadEnd
import HandS.HeadHook3
import HandS.HeadHook4
import KE.KTryMore
import HandS.EndBits
import HandS.EndTab
import KE.GoesEnum
import HandS.TupAny
import HandS.Text
import KE.IntTextLaws
import HandS.FStr
import HandS.Star
import HandS.StrMore
import HandS.RaiseMore
import HandS.HotCalls
import HandS.ExcOwn
import KE.IntBitsLaws
import HandS.Zip
import HandS.Wide
import HandS.TupMul
import HandS.MakeKwOnly
import KE.DataEq
import HandS.SetFor
import PyProof.EqAt
import HandS.Lambda
import PySem.Challenge.RW_fallranks_k56_errors_of_leads
set_option Elab.async false
set_option linter.all false
set_option maxRecDepth 100000
set_option maxHeartbeats 4000000
namespace Gd
open PySem PySem.Spec PyProof.Rows L2
/-! defs that show lists: no list is being shown around them -/
/-- a promise kept where nothing is being shown -/
structure FnG (P : Program) (w : World) (K : PySem.W.Frag) (mg : Str → Option Value) (base : Heap) (k : Nat) (f : Addr) (fd : FuncData) (ps : List Str) (sp : Sp) : Prop where
  len : ∀ vs H Q E, sp vs H Q E → vs.length = ps.length
  run : ∀ (A : Around) (outer : List Env) (s : Shared) (H : Hp) (args : Args) (us : List Value) (vs : List V) (Q : VK) (E : XK), A.guards = some [] → Room k A → Env0 P w K mg base A outer s H → BindsTo s fd args (ps.zip us) → Vals vs us → sp vs H Q E →
    codeAny (model P w) A (.call (.ref f) args) (CR CX0 outer P w H s Q E) s
theorem deeper_guards {A : Around} {env : Env} (h : A.guards = some []) : (A.deeper env).guards = some [] := by
  first
    | exact h
    | simpa [Around.deeper] using h
section
variable {P : Program} {w : World} {K : PySem.W.Frag} {mg : Str → Option Value} {base : Heap} {x qual : Str} {params : Arguments} {body : List Stmt} {scope : Scope} {dvs : List V} {kws : List (Str × V)} {f : Addr} {fd : FuncData}
theorem okG {N ps : List Str} {k : Nat} {sp : Sp} (F : FunD K x qual params body scope dvs kws f fd) (S : FnScope N ps scope) (len : ∀ vs H Q E, sp vs H Q E → vs.length = ps.length)
    (hbody : ∀ (cdv : Value) (A : Around) (outer : List Env) (s : Shared) (H : Hp) (vs : List V) (Q : VK) (E : XK), (A.deeper (envOfC qual scope s.heap.objs.size f cdv)).guards = some [] → Room k (A.deeper (envOfC qual scope s.heap.objs.size f cdv)) → sp vs H Q E →
      ∃ t, PSs (cxOf CX0 P w K mg base N qual scope f cdv A outer s H E) body t ∧ t { nx := fun _ H' => Q .non H', rt := Q } (start N vs) H) : FnG P w K mg base (k + 1) f fd ps sp := by
  obtain ⟨oc, od, dV, kV, doc, pm, an, cdv, ct, osl, rfl, lk, hcd, _, _⟩ := F.ex
  refine ⟨len, fun A outer s H args us vs Q E hgd hr e0 hb r hsp => ?_⟩
  have hlv := len _ _ _ _ hsp
  have KX : K.In s.heap := e0.mod.kin.keeps fun b o e => (e0.bs b o e).1
  have lim : s.heap.NoLimit := e0.mod.nolimit.keeps fun b o e => (e0.bs b o e).1
  have hkd : ∀ y ∈ ps.zip us, scope.names.lookup y.1 = some .local ∨ (scope.names.lookup y.1 = some .cell ∧ ((cellsFrom (s.heap.objs.size + 1) scope.names []).lookup y.1).isSome = true) := fun ⟨n, v⟩ hy => by
    rcases S.par n (List.of_mem_zip hy).1 with q | q
    · exact .inl q
    · exact .inr ⟨q, PySem.W.cellsFrom_some _ _ _ (.inl q)⟩
  refine codeAny_call_function hr.depth (KX _ _ lk) rfl S.co S.gen rfl (PySem.W.codeRec_of KX hcd) (hb _ _ _ _ ?_)
  refine wpAny_newFunctionEnv_cells S.kind hkd fun env he s1 z => ?_
  subst he
  refine ⟨lim.keeps z.toInCall.keep, codeAny_func ?_⟩
  obtain ⟨t, ht, hq⟩ := hbody cdv A outer s H vs Q E (deeper_guards hgd) (hr.deeper _) hsp
  have I : Inv (cxOf CX0 P w K mg base N qual scope f cdv A outer s H E) [] (start N vs) H s1 := inv_start S hr.hd e0 hlv r z
  refine wpAny_mono (ht.run [] s1 (start N vs) H _ I hq) (fun fl s' hs => ?_) fun e s' hs => hs
  cases fl with
  | ret u =>
    obtain ⟨v, σ', H', J, rv, q⟩ := hs
    exact ⟨v, H', J.os, J.bare, J.base, J.hok, rv, q⟩
  | next =>
    obtain ⟨σ', H', J, q⟩ := hs
    exact ⟨V.non, H', J.os, J.bare, J.base, J.hok, rfl, q⟩
  | brk =>
    obtain ⟨_, _, _, q⟩ := hs
    exact q.elim
  | cont =>
    obtain ⟨_, _, _, q⟩ := hs
    exact q.elim
end
section
variable {X : Cx} {k : Nat} {f : Addr} {fd : FuncData} {ps : List Str} {sp : Sp} {x : Str} {p pos : Pos} {e : Expr} {es : List Expr} {t : TA}
/-- such a def called -/
theorem pe_callG (F : FnG X.prog X.w X.K X.mg X.base k f fd ps sp) (hgd : X.A.guards = some []) (hr : Room k X.A) (hg : Gl X x) (hm : X.mg x = some (.ref f)) (hk : PySem.W.keepIn X.K (.ref f) = true) (hb : Binds X.K fd ps [])
    (ha : PA X (e :: es) t) (hdb : (x == ("__debug__" : Str)) = false := by decide) (he : starEach (e :: es) X.env = (false, eval e X.env) :: starEach es X.env := by rfl) (hpl : (backTo pos (starEach es X.env)).any (·.1) = false := by rfl) :
    PE X (.Call (.Name x p) (e :: es) [] pos) (tCall sp [] E0 t) := by
  refine ⟨fun pins s σ H Q I h => ?_⟩
  refine wpAny_Call_Name_kw (ld_glob I hg hm ?_ hdb)
  refine PySem.W.callWith_K (h₀ := X.base) I.ok.mod.kin hk (thn (ha.run pos pins s σ H _ I h) fun us s1 ⟨vs, H1, I1, r, q⟩ => ⟨I1.kIn, ?_⟩) he hpl
  have r2 : Vals (vs ++ []) (us ++ []) := r.append .nil
  have hl : (us ++ []).length = ps.length := by
    rw [← r2.length]
    exact F.len _ _ _ _ q
  refine wpAny_call (codeAny_mono (F.run X.A X.stack s1 H1 ⟨us, []⟩ (us ++ []) (vs ++ []) Q E0 hgd hr I1.env0 (hb s1 us I1.kIn hl) r2 q) fun r s' hq => ?_)
  cases r with
  | error er => exact hq.elim
  | ok fl =>
    cases fl with
    | ret u => exact I1.after hq
    | next => exact hq.elim
    | brk => exact hq.elim
    | cont => exact hq.elim
/-! ### repr of data -/
/-- data that stands: as Dp, or a dict of flat things at its top -/
def flatD : V → Option PyData
  | .non => some .none
  | .bl b => some (.bool b)
  | .int i => some (.int i)
  | .str z => some (.str z)
  | _ => none
def keyD : Key → PyData
  | .inl i => .int i
  | .inr z => .str z
def flatR (q : Key × V) (p : PyData × PyData) : Prop := p.1 = keyD q.1 ∧ flatD q.2 = some p.2
def Rp (K : PySem.W.Frag) (H : Hp) (v : V) (d : PyData) : Prop := Dp K H v d ∨ ∃ (a : Addr) (kvs : List (Key × V)) (ds : List (PyData × PyData)), v = .ref a ∧ H a = some (.dK kvs) ∧ Paired flatR kvs ds ∧ d = .dict ds
theorem flat_reads {h : Heap} {v : V} {u : Value} {d : PyData} (r : RelV v u) (e : flatD v = some d) : Reads h u d [] := by
  cases v with
  | non =>
    cases r
    cases e
    exact .none
  | bl b =>
    cases r
    cases e
    exact .bool b
  | int i =>
    obtain ⟨t, rfl⟩ := r
    cases e
    exact .int i t
  | str z =>
    obtain ⟨t, rfl⟩ := r
    cases e
    exact .str z t
  | byt _ => cases e
  | flt _ => cases e
  | ref _ => cases e
  | ty _ => cases e
theorem key_reads {h : Heap} {k : Key} {u : Value} (r : keyIs k u = true) : Reads h u (keyD k) [] := by
  rcases keyIs_shape r with ⟨i, t, rfl, rfl⟩ | ⟨z, t, rfl, rfl⟩
  · exact .int i t
  · exact .str z t
theorem dict_reads {P : Program} {w : World} {h : Heap} : ∀ {kvs : List (Key × V)} {vs : List (Key × Value)} {es : List DictEntry} {ds : List (PyData × PyData)}, KV kvs vs → Pairs (mixKind P w) es vs → Paired flatR kvs ds →
    ReadsAll h (es.map (·.key)) (ds.map (·.1)) [] ∧ ReadsAll h (es.map (·.val)) (ds.map (·.2)) []
  | _, _, _, _, .nil, .nil, .nil => ⟨.nil, .nil⟩
  | _, _, _, _, .cons r t, .cons a b c, .cons f g => by
    obtain ⟨h1, h2⟩ := dict_reads t c g
    obtain ⟨r1, r2⟩ := r
    obtain ⟨f1, f2⟩ := f
    refine ⟨?_, ?_⟩
    · have k1 := key_reads (h := h) a
      rw [← r1, ← f1] at k1
      exact ReadsAll.cons (bs := []) k1 h1
    · have k2 := flat_reads (h := h) r2 f2
      rw [← b] at k2
      exact ReadsAll.cons (bs := []) k2 h2
theorem dp_nodict : ∀ {K : PySem.W.Frag} {H : Hp} (d : PyData) {v : V}, Dp K H v d → d.hasDict = false
  | _, _, .none, _, _ => rfl
  | _, _, .bool _, _, _ => rfl
  | _, _, .int _, _, _ => rfl
  | _, _, .str _, _, _ => rfl
  | K, H, .list ds, _, h => by
    cases h with
    | lst hs ha =>
      simp only [PyData.hasDict]
      exact dp_nodictAll ds ha
  | K, H, .tuple ds, _, h => by
    cases h with
    | tup hs ha =>
      simp only [PyData.hasDict]
      exact dp_nodictAll ds ha
  | _, _, .dict _, _, h => by cases h
where dp_nodictAll {K : PySem.W.Frag} {H : Hp} : ∀ (ds : List PyData) {vs : List V}, DpAll K H vs ds → PyData.hasDictAll ds = false
  | [], _, _ => rfl
  | d :: ds, _, h => by
    cases h with
    | cons h1 h2 =>
      simp only [PyData.hasDictAll, dp_nodict d h1, dp_nodictAll ds h2, Bool.or_self]
/-- repr of such data -/
theorem call_repr (hgd : X.A.guards = some []) (hu : X.A.units + 64 < cLine) : CallR X (.builtin "repr") (fun xs H Q => ∃ v d, xs = [v] ∧ Rp X.K H v d ∧ PyData.showable d = true ∧ d.depth ≤ 20 ∧ d.shown.length ≤ sizeLine ∧ Q (.str d.shown) H) := by
  intro pins s σ H xs us Q I r h
  obtain ⟨v, d, rfl, hd, hs, hdp, hsz, q⟩ := h
  obtain ⟨u, rfl, ru⟩ := vals1 r
  have go : ∀ (a : Addr) (as : List Addr), u = .ref a → Reads s.heap u d as → (d.hasDict = true → sysModules ∉ as) → wpAny (model X.prog X.w) X.A (call (.builtin "repr") [u]) (EP X pins σ Q) X.xe s := by
    intro a as e rd hm
    subst e
    exact repr_of_reads' rd hs hm hgd (by omega) (fun _ _ e => e) (fun h' t tk kk => ⟨.str d.shown, H, I.kept (t' := tk) kk, ⟨t, rfl⟩, q⟩) hsz
  rcases hd with hd | ⟨a, kvs, ds, rfl, ha, hp, rfl⟩
  · have hn := dp_nodict d hd
    obtain ⟨as, rd⟩ := Dp.reads I d v u hd ru
    cases hd with
    | non =>
      cases ru
      simp only [PyData.shown] at q
      exact P.repr_of_none ⟨.str _, H, I.tok _, ⟨_, rfl⟩, q⟩
    | bl b =>
      cases ru
      simp only [PyData.shown] at q
      exact P.repr_of_bool ⟨.str _, H, I.tok _, ⟨_, rfl⟩, q⟩
    | int i =>
      obtain ⟨t, rfl⟩ := ru
      exact P.repr_of_int (by simpa [PyData.showable] using hs) ⟨.str _, H, I.tok _, ⟨_, rfl⟩, by simpa only [PyData.shown] using q⟩
    | str z =>
      obtain ⟨t, rfl⟩ := ru
      exact P.repr_of_str ⟨.str _, H, I.tok _, ⟨_, rfl⟩, by simpa only [PyData.shown] using q⟩ (by simpa only [PyData.shown] using hsz)
    | lst h1 h2 =>
      cases ru
      exact go _ as rfl rd fun z => by rw [hn] at z; cases z
    | tup h1 h2 =>
      cases ru
      exact go _ as rfl rd fun z => by rw [hn] at z; cases z
  · cases ru
    obtain ⟨_, hsy, vs, kv, o, es, ep, e1, e2, e3, _, e5, _⟩ := (show ObjOk X.prog X.w H s.heap a (.dK kvs) from I.hok a _ ha)
    obtain ⟨k1, k2⟩ := dict_reads (h := s.heap) kv e5 hp
    refine go a (a :: [] ++ []) rfl (Reads.dict e1 e2.1 e3 k1 k2) fun _ z => ?_
    simp only [List.append_nil, List.mem_singleton, List.append_eq] at z
    rw [← z] at hsy
    simp at hsy
end
end Gd
set_option Elab.async false
set_option linter.all false
set_option maxRecDepth 100000
set_option maxHeartbeats 4000000
namespace Fx
open PySem PySem.W PySem.Calls PyProof.Rows PySem.HandSPX
open Builtin Builtin.ObjectAttr
/-- a built-in base of errors, as far as errors over it want it -/
structure Root (B newId initId : String) (bmB : List Value) : Prop where
  fb : ExcBaseFacts B newId initId bmB
  kx : KxsFacts B initId
  pass : ∀ self, refuseLoop self "__setattr__" bmB = pure ()
  obj : bmB.contains (.type "object") = true
theorem rootV : Root "ValueError" "ValueError.__new__" "ValueError.__init__" [.type "ValueError", .type "Exception", .type "BaseException", .type "object"] :=
  ⟨F.excBase_ValueError, kxs_ValueError, F.store_ValueError.passes, by decide +kernel⟩
theorem rootL : Root "LookupError" "LookupError.__new__" "LookupError.__init__" [.type "LookupError", .type "Exception", .type "BaseException", .type "object"] :=
  ⟨F.excBase_LookupError, kxs_LookupError, F.store_LookupError.passes, by decide +kernel⟩
theorem rootA : Root "ArithmeticError" "ArithmeticError.__new__" "ArithmeticError.__init__" [.type "ArithmeticError", .type "Exception", .type "BaseException", .type "object"] :=
  ⟨F.excBase_ArithmeticError, kxs_ArithmeticError, F.store_ArithmeticError.passes, by decide +kernel⟩
section
variable {prog : Program} {w : World} {A : Around} {R : Result → Shared → Prop} {g0 : Heap} {gs : Array GenState} {dr : Drawn} {tk0 : Nat} {oz : OsState} {B newId initId : String} {bmB : List Value}
/-- the first attribute of a new error: its dict is made -/
theorem osa (Z : Root B newId initId bmB) {K : Frag} {name : Str} {tk : Tok} {v : Value} {x C W : Addr} {fv : Array Value} {cd : ClassData}
    (X : K.In g0) (hx : g0.get? x = some { cls := .ref C, data := .fields fv }) (hcd : clsIn K C = some cd) (hm : cd.mro = .ref C :: .ref W :: bmB) (hh : cd.hasDict = true) (ha : findIn K (.ref C) name = some none)
    (hq : ∀ g1 tk1 dx, (∀ b o, b ≠ x → g0.get? b = some o → g1.get? b = some o) → g0.objs.size ≤ dx → dx ≠ x → g1.get? x = some { cls := .ref C, dict := some dx, data := .fields fv } →
      g1.Ns1 dx (fun y => if y = name then some v else none) → R (.ok (.ret .none)) ⟨g1, gs, dr, tk1, oz⟩) :
    codeAny (model prog w) A (.call (.builtin "object.__setattr__") ⟨[.ref x, .str name tk, v], []⟩) R ⟨g0, gs, dr, tk0, oz⟩ := by
  have J : PySem.W.InstAt g0 x { cls := .ref C, data := .fields fv } C none := ⟨hx, rfl, rfl, trivial⟩
  have ST := PySem.F.store_object
  have hob : (Value.ref C :: Value.ref W :: bmB).contains (.type "object") = true := by
    rw [List.contains_cons, List.contains_cons, Z.obj, Bool.or_true, Bool.or_true]
  have hxs : x ≠ g0.objs.size := Nat.ne_of_lt (Heap.lt_size hx)
  have hmi : mroIn K C (.type "object") = some true := by
    unfold mroIn
    rw [hcd, Option.bind_some, hm, if_neg (show ¬ (List.isEmpty (Value.ref C :: Value.ref W :: bmB) = true) from Bool.false_ne_true), hob]
  have sub : Looks (model prog w) g0 (isInstance (.ref x) (.type "object")) true := J.type.andThen (looks_mroIn X hmi)
  refine codeAny_call_builtin ST.slot.plain ST.entry (@check_slot (model prog w) _ _ ⟨g0, gs, dr, tk0, oz⟩ "object.__setattr__" "object" "__setattr__" (.ref x) [.str name tk, v] [] _ ST.kind ST.split sub (ST.args (.ref x) (.str name tk) v) ?_)
  have hmr : Looks (model prog w) g0 (mroOf (.ref C)) cd.mro := (looks_clsIn X hcd).andThen .now
  have L3 : Looks (model prog w) g0 (storeTaker? none) none := .now
  have hcls : Looks (model prog w) g0 (classData C) cd := looks_clsIn X hcd
  rw [osa_eq, refuse_eq]
  refine wpAny_bind (wpAny_bind (J.type.at (wpAny_bind (hmr.at ?_))))
  rw [hm, refuseLoop_ref, refuseLoop_ref, Z.pass]
  refine wpAny_pure (wpAny_bind (J.type.at (wpAny_bind ((looks_findIn X ha).at (wpAny_bind (L3.at ?_))))))
  show wpAny _ _ (storeInOwnDict (.ref x) (.ref C) (.str name tk) name v false) _ _ _
  obtain ⟨nm, bs, mro, ns, qn, hd, sn, sb, ab, col, del⟩ := cd
  dsimp only at hh
  subst hh
  unfold storeInOwnDict ownDictForStores
  repeat (first | with_reducible refine store_in_new ?_ ?_ | with_reducible refine wpAny_loadPart_at hx ?_ | with_reducible refine hcls.at ?_ | wp_step)
  · refine ⟨_, #[], _, (Heap.get?_update_ne _ _ _ _ hxs.symm).trans (Heap.get?_push_at rfl rfl), rfl, fun e he => absurd he (by simp), ?_⟩
    intro _
    rfl
  · intro g1 tk1 hn' hs
    have hx₁ : (g0.push { cls := .type "dict", data := .dict #[] }).get? x = some { cls := .ref C, data := .fields fv } := Heap.get?_push_of_some _ hx
    refine hq g1 tk1 g0.objs.size (fun b o hb ho => ?_) (Nat.le_refl _) hxs.symm ?_ hn'
    · exact (hs.2 b (Nat.ne_of_lt (Heap.lt_size ho))).trans ((Heap.get?_update_ne _ _ _ _ hb).trans (Heap.get?_push_of_some _ ho))
    · exact (hs.2 x hxs).trans (Heap.get?_update_self _ hx₁ rfl)
end
/-- the text of an error's __init__: super().__init__(msg), and one attribute or none -/
def iS0 : Scope := { kind := .function, names := [(Str.ofString "self", .local), (Str.ofString "__class__", .free), (Str.ofString "super", .globalImplicit)], isGenerator := false, isCoroutine := false, more := [] }
def iS1 (f : Str) : Scope := { kind := .function, names := [(Str.ofString "self", .local), (f, .local), (Str.ofString "__class__", .free), (Str.ofString "super", .globalImplicit)], isGenerator := false, isCoroutine := false, more := [] }
def iA0 (p1 : Pos) : Arguments := { posonlyargs := [], args := [{ arg := "self", annotation := none, pos := p1 }], vararg := none, kwonlyargs := [], kw_defaults := [], kwarg := none, defaults := [] }
def iA1 (f : Str) (p1 p2 : Pos) : Arguments := { posonlyargs := [], args := [{ arg := "self", annotation := none, pos := p1 }, { arg := f, annotation := none, pos := p2 }], vararg := none, kwonlyargs := [], kw_defaults := [], kwarg := none, defaults := [] }
def iSup (msg : Str) (k : Nat) (q1 q2 q3 q4 q5 q6 : Pos) : Stmt := .Expr (.Call (.Attribute (.Call (.Name "super" q1) [] [] q2) "__init__" q3) [.Constant (.str msg) k q4] [] q5) q6
def iSet (f : Str) (q1 q2 q3 q4 : Pos) : Stmt := .Assign [.Attribute (.Name "self" q1) f q2] (.Name f q3) q4
/-- what the written part says of the class at C, right under the own class at W; its __init__ at fI, which closes over its class in the cell at cc -/
structure ErrT (K : Frag) (mg : Str → Option Value) (newId initId : String) (bmB : List Value) (C W fI : Addr) : Prop where
  cls : ∃ nm q N bs sn sub ab col dd k0 k1 k2 k3 k5, K.lookup C = some (excClassObj nm q C N bs (.ref W :: bmB) true sn sub ab col dd k0 k1 k2 k3 k5 newId)
  sa : findIn K (.ref C) "__setattr__" = some (some (.builtin "object.__setattr__"))
  iC : findIn K (.ref C) "__init__" = some (some (.ref fI))
  tI : typeIn K (.ref fI) = some (.type "function")
  kC : keepIn K (.ref C) = true
  al : alongIn K "__init__" (.ref W :: bmB) = some (some (.builtin initId))
  th : nsIn K cStatics "thirdparty.any" = some none
  su : mg "super" = none
/-- its __init__ with one parameter -/
def Fn1 (prog : Program) (K : Frag) (C fI : Addr) (f : Str) : Prop := ∃ (oc : Value) (od : Option Addr) (qual msg : Str) (kM : Nat) (kV doc pm : Value) (an : Option Addr) (cda cc : Addr) (ct : Value) (osl : Array (Option Value)) (p1 p2 q1 q2 q3 q4 q5 q6 r1 r2 r3 r4 : Pos) (vs : Array Value) (file : Str) (tf : Tok) (ccl cl : Value) (cdd cld : Option Addr) (ccs csl : Array (Option Value)),
    K.lookup fI = some ⟨oc, od, .func (ksFn "__init__" qual (iA1 f p1 p2) [iSup msg kM q1 q2 q3 q4 q5 q6, iSet f r1 r2 r3 r4] (iS1 f) .none kV doc pm an (.ref cda) ct cc), osl⟩ ∧ codeIn K (.ref cda) qual = true ∧
    K.lookup cda = some ⟨ccl, cdd, .fields vs, ccs⟩ ∧ vs[2]? = some (.str file tf) ∧ ((prog.main.file : Str) == file) = true ∧ K.lookup cc = some ⟨cl, cld, .cell (some (.ref C)), csl⟩ ∧ (prog.main.scope.names.lookup ("super" : Str)).isSome = false ∧ (q3.endLine == q5.line) = true
end Fx
set_option Elab.async false
set_option linter.all false
set_option maxRecDepth 100000
set_option maxHeartbeats 4000000
namespace Fx
open PySem PySem.W PySem.Calls PyProof.Rows PySem.HandSPX
open Builtin Builtin.ObjectAttr
section
variable {prog : Program} {w : World} {A : Around} {R : Result → Shared → Prop} {s : Shared} {B newId initId : String} {bmB : List Value} {K : Frag} {mg : Str → Option Value} {base : Heap} {C W fI : Addr}
/-- super().__init__(msg) within the __init__ of a new error at x -/
theorem sup_stmt (Z : Root B newId initId bmB) (T : ErrT K mg newId initId bmB C W fI) (M : L2.Mod K mg base) (kb : ∀ b o, base.get? b = some o → s.heap.get? b = some o) {qual msg : Str} {sc : Scope} {kM : Nat} {kV doc pm ct oc ccl cl : Value} {od an cdd cld : Option Addr} {cda cc L x t0 : Addr} {osl ccs csl : Array (Option Value)} {vs : Array Value} {file : Str} {tf : Tok} {ps : Arguments} {body : List Stmt} {ar : Arg} {m : Str → Option Value} {q1 q2 q3 q4 q5 q6 : Pos} {Q : Flow → Shared → Prop} {E : Value → Shared → Prop}
    (lf : K.lookup fI = some ⟨oc, od, .func (ksFn "__init__" qual ps body sc .none kV doc pm an (.ref cda) ct cc), osl⟩) (hp : (ps.posonlyargs ++ ps.args).head? = some ar) (har : ar.arg = "self")
    (lc : K.lookup cda = some ⟨ccl, cdd, .fields vs, ccs⟩) (hvs : vs[2]? = some (.str file tf)) (hfile : ((prog.main.file : Str) == file) = true) (lcell : K.lookup cc = some ⟨cl, cld, .cell (some (.ref C)), csl⟩) (htop : (prog.main.scope.names.lookup ("super" : Str)).isSome = false)
    (hks : sc.names.lookup ("super" : Str) = some .globalImplicit) (hkc : sc.names.lookup ("__class__" : Str) = some .free) (hka : sc.names.lookup ("self" : Str) = some .local) (hl1 : (q3.endLine == q5.line) = true) (hk : sc.kind = .function) (hi : interactive (ksEnv qual sc L fI (.ref cda) cc) = false)
    (hn : s.heap.Ns L m) (hm : m "self" = some (.ref x)) (hx : s.heap.get? x = some (excO C t0))
    (hq : ∀ h' tk t1, (∀ b o, b ≠ x → s.heap.get? b = some o → h'.get? b = some o) → h'.get? x = some (excO C t1) → Q .next { s with heap := h', toks := tk }) :
    _root_.PySem.wpAt (model prog w) A (.func body (ksEnv qual sc L fI (.ref cda) cc)) (exec (iSup msg kM q1 q2 q3 q4 q5 q6) (ksEnv qual sc L fI (.ref cda) cc)) Q E s := by
  obtain ⟨nm, q, N, bs, sn, sub, ab, col, dd, k0, k1, k2, k3, k5, hC⟩ := T.cls
  have X : K.In s.heap := M.kin.keeps kb
  have hcl : clsIn K C = some { name := nm, bases := bs, mro := .ref C :: .ref W :: bmB, ns := N, qualname := q, hasDict := true, slotNames := sn, subclasses := sub, abstract := ab, collection := col, hasDel := false } := by unfold clsIn; rw [hC] <;> rfl
  obtain ⟨mb, hb1, hb2⟩ := M.blt
  have J : PySem.W.InstAt s.heap x (excO C t0) C none := ⟨hx, rfl, rfl, trivial⟩
  have hCh := X _ _ hC
  have hmC : mroIn K C (.ref C) = some true := by
    unfold mroIn
    rw [hcl, Option.bind_some]
    simp
  have hmB : mroIn K C (.type B) = some true := by
    unfold mroIn
    rw [hcl, Option.bind_some, if_neg (show ¬ (List.isEmpty (Value.ref C :: Value.ref W :: bmB) = true) from Bool.false_ne_true)]
    show some ((Value.ref C :: Value.ref W :: bmB).contains (.type B)) = some true
    rw [List.contains_cons, List.contains_cons, Z.fb.hasB, Bool.or_true, Bool.or_true]
  unfold iSup
  refine ks_wpAt_Expr_any ?_ hi
  refine ks_wpAt_MethodCall (pl := L2.plainOf (.Call (.Name "super" q1) [] [] q2) (ksEnv qual sc L fI (.ref cda) cc)) ?_ ?he
  case he =>
    have e1 := fun ov => L2.mcall_line (o := .Call (.Name "super" q1) [] [] q2) (m := "__init__") (apos := q3) (pos := q5) (env := ksEnv qual sc L fI (.ref cda) cc) (ov := ov) (n := 1) (args := backTo q5 (starEach [.Constant (.str msg) kM q4] (ksEnv qual sc L fI (.ref cda) cc))) (kws := []) (by rfl) hl1
    show (attributeBase _ _ _ _ >>= fun ov => standAt q3.atName >>= fun _ => methodCall _ _ _ _ _ ov _ _ _) = _
    refine congrArg _ (funext fun ov => congrArg _ (funext fun _ => ?_))
    exact e1 ov
  refine ks_wpAt_super_base (env := ksEnv qual sc L fI (.ref cda) cc) hks hkc (by decide) rfl (X _ _ lf) rfl hp rfl (X _ _ lc) rfl hvs hfile htop ?_
  refine ks_loadName_global hk hks (loadGlobal_builtin (env := ksEnv qual sc L fI (.ref cda) cc) (M.glob.keeps kb) T.su (hb1.keeps kb) ((hb2 _ (by decide +kernel)).trans (by first | boot_by_name | rfl | kernel_rfl)) ⟨rfl, ?_⟩)
  refine wpAny_loadName_free hk hkc rfl ⟨_, X _ _ lcell, rfl⟩ ?_
  rw [har]
  refine wpAny_loadName_local hk hka hn hm ?_
  refine ks_wpAny_isType_cls hCh rfl ⟨rfl, ?_⟩
  obtain ⟨hh, g, d, t, os⟩ := s
  refine ks_wpAny_call_super hCh rfl J.at_ J.cls (fun c e => ?_) (looks_mroIn X hmC) (fun h1 e1 kk1 => ?_)
  · cases e
  have X1 : K.In h1 := X.keeps kk1
  have J1 : PySem.W.InstAt h1 x (excO C t0) C none := ⟨kk1 _ _ hx, rfl, rfl, trivial⟩
  have hI : Looks (model prog w) h1 (isInstance (.ref x) (.type B)) true := J1.type.andThen (looks_mroIn X1 hmB)
  have hxC : x ≠ C := ks_ne X J hcl
  refine kxs_getMethod Z.kx e1 (looks_opaque X1 T.th) (l₀ := .ref C :: .ref W :: bmB) ?_ rfl X1 (name := "__init__") ?_ hI hxC (by decide) ?_
  · exact fun A Q E s k q => wpAny_bind ((looks_clsIn X1 hcl) A _ E s k (wpAny_pure q))
  · have e0 : ((Value.ref C :: Value.ref W :: bmB).dropWhile (· != .ref C)).drop 1 = .ref W :: bmB := by simp [List.dropWhile_cons]
    rw [e0]
    exact T.al
  refine kxs_callWith (i := initId) (x := x) (by rfl) ?_
  show wpAny _ _ (evalArgs _ true ((false, eval (.Constant (.str msg) kM q4) (ksEnv qual sc L fI (.ref cda) cc)) :: []) []) _ _ _
  refine evalArgs_plain (spliced_cons (wpAny_Constant_str (spliced_nil ⟨Heap.get?_push_at rfl rfl, ?_⟩)))
  have up2 : ∀ b o, h1.get? b = some o → (h1.push (kxs_mw initId x)).get? b = some o := fun b o e => Heap.get?_push_of_some _ e
  refine wpAny_call (codeAny_of_tree ?_)
  show wpAny _ A.in1 (callAny (.ref _) ⟨[.str msg _], []⟩) _ _ _
  simp only [callAny]
  refine wpAny_bind (wpAny_load (Heap.get?_push_at rfl rfl) ?_)
  simp only [kxs_mw, show (Value.type "method-wrapper" == Value.type "method" || Value.type "method-wrapper" == Value.type "builtin_function_or_method" || Value.type "method-wrapper" == Value.type "method-wrapper") = true by decide, if_true]
  refine KFB.if_so (by decide) ?_
  refine wpAny_bind (check_bound_init Z.fb.toExcCallFacts (up2 _ _ (kk1 _ _ hCh)) (up2 _ _ (kk1 _ _ hx)) rfl ?_)
  refine wpAny_bind (wpAny_pure (wpAny_pure ?_))
  refine ⟨plainId_quiet Z.fb.init.plain _, codeAny_builtin Z.fb.initEntry ?_⟩
  refine exc_init_tree (cls := .ref C) (t0 := t0) (dv := none) (c2 := .none) (c3 := .none) (b4 := .bool false) (up2 _ _ (kk1 _ _ hx)) (by show 1 ≤ sizeLine; rw [sizeLine_eq]; omega) fun h2 k2' he' _ => ?_
  exact hq h2 _ _ (fun b o hb e => k2' b o hb (up2 _ _ (kk1 _ _ e))) he'
end
end Fx
set_option Elab.async false
set_option linter.all false
set_option maxRecDepth 100000
set_option maxHeartbeats 4000000
namespace Fx
open PySem PySem.W PySem.Calls PyProof.Rows PySem.HandSPX
open Builtin Builtin.ObjectAttr
/-- an error made: at x, its dict at dx with the one attribute -/
abbrev excD (C t : Addr) (dx : Option Addr) : Obj := { cls := .ref C, dict := dx, data := .fields #[.ref t, .none, .none, .none, .bool false, .none] }
theorem cellS1 (f : Str) : ∀ y ∈ (iS1 f).names, y.2 ≠ .cell := by
  intro y hy
  simp only [iS1, List.mem_cons, List.not_mem_nil, or_false] at hy
  rcases hy with rfl | rfl | rfl | rfl <;> exact fun z => nomatch z
theorem locS1 {f : Str} (hf : f = "given" ∨ f = "index") (a b : Value) : ∀ y ∈ [((Str.ofString "self" : Str), a), (f, b)], (iS1 f).names.lookup y.1 = some .local := by
  intro y hy
  simp only [List.mem_cons, List.not_mem_nil, or_false] at hy
  rcases hf with rfl | rfl <;> rcases hy with rfl | rfl <;> rfl
theorem cellS0 : ∀ y ∈ iS0.names, y.2 ≠ .cell := by
  intro y hy
  simp only [iS0, List.mem_cons, List.not_mem_nil, or_false] at hy
  rcases hy with rfl | rfl | rfl <;> exact fun z => nomatch z
theorem locS0 (a : Value) : ∀ y ∈ [((Str.ofString "self" : Str), a)], iS0.names.lookup y.1 = some .local := by
  intro y hy
  simp only [List.mem_cons, List.not_mem_nil, or_false] at hy
  subst hy
  rfl
section
variable {prog : Program} {w : World} {A : Around} {R : Result → Shared → Prop} {s : Shared} {B newId initId : String} {bmB : List Value} {K : Frag} {mg : Str → Option Value} {base : Heap} {C W fI : Addr}
theorem ldK {M : Model} {E : Value → Shared → Prop} {nm : Str} {sc : Scope} {L a cc : Addr} {cd : Value} {m : Str → Option Value} {y : Str} {pos : Pos} {v : Value} {Q : Value → Shared → Prop} (hn : s.heap.Ns L m) (hv : m y = some v) (h : Q v s)
    (hk : sc.kind = .function := by rfl) (hl : (ksEnv nm sc L a cd cc).kindOf y = some .local := by rfl) (hd : (y == ("__debug__" : Str)) = false := by decide) : wpAny M A (PySem.eval (.Name y pos) (ksEnv nm sc L a cd cc)) Q E s :=
  wpAny_Name (wpAny_loadName_local hk hl hn hv h) hd
theorem init1 (Z : Root B newId initId bmB) (T : ErrT K mg newId initId bmB C W fI) (M : L2.Mod K mg base) (kb : ∀ b o, base.get? b = some o → s.heap.get? b = some o) {f : Str} (hf : f = "given" ∨ f = "index") (noF : findIn K (.ref C) f = some none)
    (N : Fn1 prog K C fI f) {x t0 : Addr} {v : Value} {args : Args} (hb : args = ⟨[.ref x, v], []⟩ ∨ args = ⟨[.ref x], [(f, v)]⟩) (hx : s.heap.get? x = some (excO C t0)) (hnx : base.get? x = none) (hroom : A.depth < recursionLimit)
    (hq : ∀ h' tk dx t1, (∀ b o, b ≠ x → s.heap.get? b = some o → h'.get? b = some o) → h'.get? x = some (excD C t1 (some dx)) → s.heap.objs.size ≤ dx → dx ≠ x → h'.Ns1 dx (fun y => if y = f then some v else none) → R (.ok (.ret .none)) { s with heap := h', toks := tk }) :
    codeAny (model prog w) A (.call (.ref fI) args) R s := by
  obtain ⟨oc, od, qual, msg, kM, kV, doc, pm, an, cda, cc, ct, osl, p1, p2, q1, q2, q3, q4, q5, q6, r1, r2, r3, r4, vs, file, tf, ccl, cl, cdd, cld, ccs, csl, lf, lcd, lc, hvs, hfile, lcell, htop, hl1⟩ := N
  obtain ⟨nm, q, N, bs, sn, sub, ab, col, dd, k0, k1, k2, k3, k5, hC⟩ := T.cls
  have X : K.In s.heap := M.kin.keeps kb
  have hcl : clsIn K C = some { name := nm, bases := bs, mro := .ref C :: .ref W :: bmB, ns := N, qualname := q, hasDict := true, slotNames := sn, subclasses := sub, abstract := ab, collection := col, hasDel := false } := by unfold clsIn; rw [hC] <;> rfl
  rcases hf with rfl | rfl
  all_goals
    refine ks_codeAny_call_defAt (fd := ksFn "__init__" qual (iA1 _ p1 p2) [iSup msg kM q1 q2 q3 q4 q5 q6, iSet _ r1 r2 r3 r4] (iS1 _) .none kV doc pm an (.ref cda) ct cc) (body := [iSup msg kM q1 q2 q3 q4 q5 q6, iSet _ r1 r2 r3 r4]) (binds := [("self", .ref x), (_, v)]) hroom (X _ _ lf) rfl (M.nolimit.keeps kb) (codeRec_of X lcd) rfl (by rcases hb with rfl | rfl <;> exact .of_eq rfl) (cellS1 _) (locS1 (by first | exact .inl rfl | exact .inr rfl) _ _) (fun h₁ hns hk₁ => ?_) rfl rfl rfl
    refine ks_wpAt_execs_cons (sup_stmt Z T M (fun b o e => hk₁ b o (kb b o e)) lf rfl rfl lc hvs hfile lcell htop rfl rfl rfl hl1 rfl rfl hns (m := fun y => [((PySem.Str.ofString "self" : Str), Value.ref x), (_, v)].reverse.lookup y) (by rfl) (hk₁ _ _ hx) fun h₂ tk₂ t2 k₂ e₂ => ?_)
    refine wpAt_of_wpAny ?_
    have xL : s.heap.objs.size ≠ x := Nat.ne_of_gt (Heap.lt_size hx)
    have hns2 := hns
    obtain ⟨oL, es, ep, hL, rL⟩ := hns2
    have hns' : h₂.Ns s.heap.objs.size (fun y => [((PySem.Str.ofString "self" : Str), Value.ref x), (_, v)].reverse.lookup y) := ⟨oL, es, ep, k₂ _ _ xL hL, rL⟩
    have X₂ : K.In h₂ := fun b o e => k₂ b o (fun z => by
      have y := M.kin b o e
      rw [z, hnx] at y
      cases y) (hk₁ b o (X b o e))
    refine wpAny_execs_cons (plainObj_wpAny_Assign_Attribute ?_)
    refine ldK (v := v) hns' (by rfl) (ldK (v := .ref x) hns' (by rfl) ?_)
    refine set_plain X₂ (ox := excO C t2) (od := none) ⟨e₂, rfl, rfl, trivial⟩ T.sa ?_
    refine osa Z X₂ e₂ hcl rfl rfl noF fun h₃ tk₃ dx k₃ dn dne hx₃ hn₃ => ?_
    show wpAny _ _ (execs _ _) _ _ _
    refine wpAny_execs_nil (hq h₃ tk₃ dx t2 (fun b o hb e => k₃ b o hb (k₂ b o hb (hk₁ b o e))) hx₃ ?_ dne hn₃)
    exact Nat.le_trans (Nat.le_of_lt hns'.lt) dn
end
end Fx
set_option Elab.async false
set_option linter.all false
set_option maxRecDepth 100000
set_option maxHeartbeats 4000000
namespace Fx
open PySem PySem.W PySem.Calls PyProof.Rows PySem.HandSPX
open Builtin Builtin.ObjectAttr
/-! a class of errors called, with any positional and keyword arguments -/
section
variable {M : Model} {A : Around} {E : Value → Shared → Prop} {g0 : Heap} {gs : Array GenState} {dr : Drawn} {tk0 : Nat} {oz : OsState}
variable {nm qn : Str} {C N : Addr} {bs bm bmB : List Value} {hdct : Bool} {sn : List Str} {sub : List Value} {ab : Bool} {col : Option Bool} {dd : Option Addr} {k0 k1 k2 k3 k5 : Option Value} {B newId initId : String}
theorem kw_check (F : ExcBaseFacts B newId initId bmB) (hT : ∀ y : String, bm.contains (.type y) = bmB.contains (.type y)) {rest : List Value} {kw : List (Str × Value)} {Q : Unit → Shared → Prop}
    (hC : g0.get? C = some (excClassObj nm qn C N bs bm hdct sn sub ab col dd k0 k1 k2 k3 k5 newId)) (hq : Q () ⟨g0, gs, dr, tk0, oz⟩) : wpAny M A (checkBuiltinCall newId ⟨.ref C :: rest, kw⟩) Q E ⟨g0, gs, dr, tk0, oz⟩ := by
  have hB : (Value.ref C :: bm).contains (.type B) = true := by
    rw [List.contains_cons, hT, F.hasB, Bool.or_true]
  have hns := F.noStar
  simp only [checkBuiltinCall, F.newKind, F.newSplit, F.newRow]
  repeat (first | refine wpAny_loadPart_at hC ?_ | (refine wpAny_isSubtype_exc hC ?_; rw [hB]) | refine wpAny_staticBase_exc hC ?_ | refine wpAny_madeBy_exc hC ?_ | simp only [bne_self_eq_false, Bool.false_eq_true, if_false] | wp_step)
  first
    | exact hq
    | skip
end
section
variable {prog : Program} {w : World} {A : Around} {E : Value → Shared → Prop} {R : Result → Shared → Prop} {g0 : Heap} {gs : Array GenState} {dr : Drawn} {tk0 : Nat} {oz : OsState}
variable {nm qn : Str} {C N : Addr} {bs bm bmB : List Value} {hdct : Bool} {sn : List Str} {sub : List Value} {ab : Bool} {col : Option Bool} {dd : Option Addr} {k0 k1 k2 k3 k5 : Option Value} {B newId initId : String}
theorem kw_new (F : ExcBaseFacts B newId initId bmB) (hT : ∀ y : String, bm.contains (.type y) = bmB.contains (.type y)) {rest : List Value} {kw : List (Str × Value)}
    (hC : g0.get? C = some (excClassObj nm qn C N bs bm hdct sn sub ab col dd k0 k1 k2 k3 k5 newId))
    (hq : R (.ok (.ret (.ref (g0.objs.size + 1)))) ⟨(g0.push (kdv_tup rest)).push (excO C g0.objs.size), gs, dr, tk0, oz⟩) (hz : rest.length ≤ sizeLine) :
    codeAny (model prog w) A (.builtin newId ⟨.ref C :: rest, kw⟩) R ⟨g0, gs, dr, tk0, oz⟩ := by
  have he := F.ends
  have hB : (Value.ref C :: bm).contains (.type B) = true := by
    rw [List.contains_cons, hT, F.hasB, Bool.or_true]
  have hA : (Value.ref C :: bm).contains (.type "AttributeError") = false := by
    rw [List.contains_cons, hT, F.noAttr]
    rfl
  have hN : (Value.ref C :: bm).contains (.type "NameError") = false := by
    rw [List.contains_cons, hT, F.noName]
    rfl
  refine codeAny_builtinAt F.entry ?_
  unfold Builtin.«BaseException.__new__»
  refine _root_.PySem.wpAt_bind ?_
  show _root_.PySem.wpAt _ _ _ (stack >>= _) _ _ _
  refine _root_.PySem.wpAt_bind (_root_.PySem.wpAt_stack fun p below => _root_.PySem.wpAt_of_wpAny ?_)
  wp_walk
  refine _root_.PySem.wpAt_of_wpAny ?_
  rw [F.owner]
  repeat (first | with_reducible refine wpAny_madeHere_exc F.canon hC ?_ | with_reducible refine wpAny_loadPart_at hC ?_ | (with_reducible refine wpAny_isSubtype_exc hC ?_; first | rw [hB] | rw [hA] | rw [hN]) | wp_step)
  show R _ _
  rw [Heap.size_push]
  exact hq
theorem kw_type (F : ExcBaseFacts B newId initId bmB) (hT : ∀ y : String, bm.contains (.type y) = bmB.contains (.type y)) {rest : List Value} {kw : List (Str × Value)} {fI : Addr} {Q : Fin → Shared → Prop}
    (hC : g0.get? C = some (excClassObj nm qn C N bs bm hdct sn sub ab col dd k0 k1 k2 k3 k5 newId))
    (hi : Looks (model prog w) g0 (typeLookup (.ref C) "__init__") (some (.ref fI))) (hb : ∀ self, Looks (model prog w) g0 (bindSpecial (.ref fI) self) (.ref fI, [self])) (hz : rest.length ≤ sizeLine)
    (hq : codeAny (model prog w) A (.call (.ref fI) ⟨.ref (g0.objs.size + 1) :: rest, kw⟩)
      (fun r s' => match r with | .ok (.ret v) => v = .none ∧ Q (.done (.ret (.ref (g0.objs.size + 1)))) s' | .ok _ => False | .error e => E e s')
      ⟨(g0.push (kdv_tup rest)).push (excO C g0.objs.size), gs, dr, tk0, oz⟩) :
    wpAny (model prog w) A (Builtin.«type.__call__» ⟨.ref C :: rest, kw⟩) Q E ⟨g0, gs, dr, tk0, oz⟩ := by
  repeat (first | with_reducible refine wpAny_loadPart_at hC ?_ | with_reducible refine wpAny_madeBy_exc hC ?_ | wp_step)
  refine codeAny_call_builtin_code (Code.quiet_builtin _ F.quiet) (kw_check F hT hC ?_)
  refine kw_new F hT hC ?_ hz
  show wpAny _ _ _ _ _ _
  have k : ∀ b o, g0.get? b = some o → ((g0.push (kdv_tup rest)).push (excO C g0.objs.size)).get? b = some o := fun b o e => Heap.get?_push_of_some _ (Heap.get?_push_of_some _ e)
  have hC₁ := k _ _ hC
  have hget : ((g0.push (kdv_tup rest)).push (excO C g0.objs.size)).get? (g0.objs.size + 1) = some (excO C g0.objs.size) := by heap_get
  have hCC : (Value.ref C :: bm).contains (.ref C) = true := by simp
  have i1 := hi.keeps k
  have b1 := (hb (.ref (g0.objs.size + 1))).keeps k
  unfold isInstance
  repeat (first | with_reducible refine wpAny_loadPart_at hget ?_ | (with_reducible refine wpAny_isSubtype_exc hC₁ ?_; rw [hCC]) | wp_step)
  show wpAny _ _ (typeLookup (.ref C) _) _ _ _
  refine i1.at ?_
  refine wpAny_holding (wpAny_bind (b1.at ?_))
  refine wpAny_bind (wpAny_call (codeAny_mono hq fun r s' z => ?_))
  rcases r with e | (v | _ | _ | _) <;> first | exact z | exact z.elim | skip
  obtain ⟨rfl, z⟩ := z
  first
    | exact wpAny_pure (wpAny_pure z)
    | (wp_walk; exact z)
theorem kw_call (F : ExcBaseFacts B newId initId bmB) (hT : ∀ y : String, bm.contains (.type y) = bmB.contains (.type y)) {rest : List Value} {kw : List (Str × Value)} {fI : Addr}
    (hC : g0.get? C = some (excClassObj nm qn C N bs bm hdct sn sub ab col dd k0 k1 k2 k3 k5 newId))
    (hi : Looks (model prog w) g0 (typeLookup (.ref C) "__init__") (some (.ref fI))) (hb : ∀ self, Looks (model prog w) g0 (bindSpecial (.ref fI) self) (.ref fI, [self])) (hz : rest.length ≤ sizeLine)
    (hq : codeAny (model prog w) (A.under (.builtin "type.__call__" ⟨.ref C :: rest, kw⟩)) (.call (.ref fI) ⟨.ref (g0.objs.size + 1) :: rest, kw⟩) (InitBack (g0.objs.size + 1) R)
      ⟨(g0.push (kdv_tup rest)).push (excO C g0.objs.size), gs, dr, tk0, oz⟩) :
    codeAny (model prog w) A (.call (.ref C) ⟨rest, kw⟩) R ⟨g0, gs, dr, tk0, oz⟩ := by
  have f1 := tc_lookup
  have f2 := tc_bind (.ref C)
  have hTy : (⟨g0, gs, dr, tk0, oz⟩ : Shared).TypeIs (.ref C) "type" := ⟨_, hC, rfl⟩
  refine codeAny_of_tree ?_
  show wpAny _ _ (callAny (.ref C) _) _ _ _
  repeat (any_goals (first | assumption | with_reducible refine wpAny_loadPart_at hC ?_ | wp_step))
  refine ⟨rfl, ?_⟩
  refine codeAny_call_builtin_at (Code.quiet_builtin _ (by decide +kernel)) entry_typeCall (wpAny_check_type_call_sub hC (kw_type F hT hC hi hb hz ?_))
  refine codeAny_mono hq fun r s' z => ?_
  rcases r with e | (v | _ | _ | _) <;> exact z
end
end Fx
set_option Elab.async false
set_option linter.all false
set_option maxRecDepth 100000
set_option maxHeartbeats 4000000
namespace Fx
open PySem L2
open PySem.W (Frag)
/-- what the walk asks of a class of errors with one attribute f -/
structure Err1 (prog : Program) (K : Frag) (mg : Str → Option Value) (newId initId : String) (bmB : List Value) (C W fI : Addr) (f : Str) : Prop where
  t : ErrT K mg newId initId bmB C W fI
  n : Fn1 prog K C fI f
  no : PySem.W.findIn K (.ref C) f = some none
  ff : f = "given" ∨ f = "index"
section
variable {X : Cx} {pins : List (Addr × Obj)} {σ : St} {H : Hp} {s : Shared} {B newId initId : String} {bmB : List Value} {C W fI : Addr} {f : Str} {k : Nat}
theorem hT_of (Z : Root B newId initId bmB) (W : Addr) : ∀ y : String, (Value.ref W :: bmB).contains (.type y) = bmB.contains (.type y) := fun y => by
  rw [List.contains_cons]
  rfl
/-- what stands new: the error at a, its dict at d -/
theorem err_laid (I : Inv X pins σ H s) {h' : Heap} {a d t1 : Addr} {mA : Str → Option Value} {fs : List (Str × V)} {tk : Nat} (k : ∀ b o, s.heap.get? b = some o → h'.get? b = some o) (ha : s.heap.objs.size ≤ a) (hd : s.heap.objs.size ≤ d) (ne : d ≠ a)
    (ea : h'.get? a = some (excD C t1 (some d))) (ed : h'.Ns1 d mA) (rel : ∀ g, RelO (fs.lookup g) (mA g)) :
    H a = none ∧ H d = none ∧ Inv X pins σ (upd (upd H d (exd d fs)) a (exo a C (some d))) { s with heap := h', toks := tk } := by
  have na : H a = none := I.hok.fresh ha
  have nd : H d = none := I.hok.fresh hd
  have la : ∀ {b : Addr} {o : Obj}, s.heap.get? b = some o → b ≠ a := fun {b o} q => Nat.ne_of_lt (Nat.lt_of_lt_of_le (Heap.lt_size q) ha)
  have ld : ∀ {b : Addr} {o : Obj}, s.heap.get? b = some o → b ≠ d := fun {b o} q => Nat.ne_of_lt (Nat.lt_of_lt_of_le (Heap.lt_size q) hd)
  have up : ∀ {b : Addr}, b ≠ a → b ≠ d → (upd (upd H d (exd d fs)) a (exo a C (some d))) b = H b := fun {b} h1 h2 => by
    rw [upd_ne h1, upd_ne h2]
  have us : ∀ {b : Addr} {o : HO}, H b = some o → (upd (upd H d (exd d fs)) a (exo a C (some d))) b = some o := fun {b o} q => by
    rw [up (ne_of_none q na) (ne_of_none q nd)]
    exact q
  refine ⟨na, nd, I.un (t' := tk) ⟨fun b o q _ _ _ => k b o q, fun b o q _ _ _ => ⟨o.slots, k b o q⟩, fun b o q n _ => ?_, fun b o q _ => ⟨o, k b o q⟩, fun b xs q => us q, fun b o v q => us q, fun b ps q => ⟨#[], by rw [us q]; simp⟩⟩ fun b o q => ?_⟩
  · rw [up (la q) (ld q)]
    exact n
  · by_cases h1 : b = a
    · subst h1
      rw [upd_same] at q
      cases q
      exact exo_ok ea
    · rw [upd_ne h1] at q
      by_cases h2 : b = d
      · subst h2
        rw [upd_same] at q
        cases q
        exact exd_ok ed rel
      · rw [upd_ne h2] at q
        exact (I.hok b o q).stay (fun c v _ z => k c v z) (fun c z => us z) fun c xs z => us z
theorem run_err (Z : Root B newId initId bmB) (T : Err1 X.prog X.K X.mg newId initId bmB C W fI f) (hr : Room (k + 1) X.A) (I : Inv X pins σ H s) {y : V} {u : Value} (ry : RelV y u) {pos : List Value} {kw : List (Str × Value)}
    (ha : (pos = [u] ∧ kw = []) ∨ (pos = [] ∧ kw = [(f, u)])) {Q : VK} (h : ∀ a d, H a = none → H d = none → d ≠ a → Q (.ref a) (upd (upd H d (exd d [(f, y)])) a (exo a C (some d)))) :
    wpAny (model X.prog X.w) X.A (call (.ref C) pos kw) (EP X pins σ Q) X.xe s := by
  obtain ⟨nm, q, N, bs, sn, sub, ab, col, dd, k0, k1, k2, k3, k5, hC⟩ := T.t.cls
  obtain ⟨hp, g, dr, tk, os⟩ := s
  have kk : ∀ b o, hp.get? b = some o → ((hp.push (PySem.W.kdv_tup pos)).push (PySem.HandSPX.excO C hp.objs.size)).get? b = some o := fun b o e => Heap.get?_push_of_some _ (Heap.get?_push_of_some _ e)
  have hget : ((hp.push (PySem.W.kdv_tup pos)).push (PySem.HandSPX.excO C hp.objs.size)).get? (hp.objs.size + 1) = some (PySem.HandSPX.excO C hp.objs.size) := by heap_get
  have hz : pos.length ≤ sizeLine := by
    rw [sizeLine_eq]
    rcases ha with ⟨rfl, _⟩ | ⟨rfl, _⟩
    · show 1 ≤ 16777216
      decide
    · show 0 ≤ 16777216
      decide
  have nb : X.base.get? (hp.objs.size + 1) = none := by
    cases e : X.base.get? (hp.objs.size + 1) with
    | none => rfl
    | some o =>
      have z : hp.get? (hp.objs.size + 1) = some o := I.bk _ _ e
      exact absurd (Nat.lt_of_succ_lt (Heap.lt_size z)) (Nat.lt_irrefl _)
  have args : (Args.mk (Value.ref (hp.objs.size + 1) :: pos) kw) = ⟨[.ref (hp.objs.size + 1), u], []⟩ ∨ (Args.mk (Value.ref (hp.objs.size + 1) :: pos) kw) = ⟨[.ref (hp.objs.size + 1)], [(f, u)]⟩ := by
    rcases ha with ⟨rfl, rfl⟩ | ⟨rfl, rfl⟩
    · exact .inl rfl
    · exact .inr rfl
  refine wpAny_call (kw_call Z.fb (hT_of Z W) (I.kIn _ _ hC) (PySem.W.looks_findIn I.kIn T.t.iC) (fun self => PySem.W.bind_fn I.kIn self T.t.tI) hz ?_)
  refine init1 (s := ⟨(hp.push (PySem.W.kdv_tup pos)).push (PySem.HandSPX.excO C hp.objs.size), g, dr, tk, os⟩) Z T.t I.ok.mod (fun b o e => kk b o (I.bk b o e)) T.ff T.no T.n args hget nb ?_ fun h' tk' dx t1 k1 e1 dn dne hn => ?_
  · rw [make_depth]
    have := hr.dp
    omega
  · have old : ∀ b o, hp.get? b = some o → h'.get? b = some o := fun b o e => k1 b o (Nat.ne_of_lt (Nat.lt_succ_of_lt (Heap.lt_size e))) (kk b o e)
    have sz : hp.objs.size ≤ dx := by
      have z : ((hp.push (PySem.W.kdv_tup pos)).push (PySem.HandSPX.excO C hp.objs.size)).objs.size ≤ dx := dn
      rw [Heap.size_push, Heap.size_push] at z
      omega
    obtain ⟨na, nd, J⟩ := err_laid (fs := [(f, y)]) (tk := tk') I old (Nat.le_succ _) sz dne e1 hn (relO_put (fs := []) (mA := fun _ => none) ry fun g => True.intro)
    exact ⟨rfl, .ref (hp.objs.size + 1), _, J, rfl, h _ _ na nd dne⟩
end
end Fx
set_option Elab.async false
set_option linter.all false
set_option maxRecDepth 100000
set_option maxHeartbeats 4000000
namespace Fx
open PySem L2
open PySem.W (Frag)
section
variable {X : Cx} {pins : List (Addr × Obj)} {σ : St} {H : Hp} {s : Shared} {B newId initId : String} {bmB : List Value} {C W fI : Addr} {f : Str} {k : Nat} {x : Str} {p pos kpos : Pos} {e : Expr} {te : TE}
/-- C(e), C(f=e): a new error at a, its dict at d -/
def tErr (C : Addr) (f : Str) (te : TE) : TE := fun σ H Q => te σ H fun y H1 => ∀ a d, H1 a = none → H1 d = none → d ≠ a → Q (.ref a) (upd (upd H1 d (exd d [(f, y)])) a (exo a C (some d)))
theorem pe_err (Z : Root B newId initId bmB) (T : Err1 X.prog X.K X.mg newId initId bmB C W fI f) (hr : Room (k + 1) X.A) (gC : X.mg x = some (.ref C)) (hg : Gl X x) (he : PE X e te) (hs : starEach [e] X.env = (false, eval e X.env) :: starEach [] X.env := by rfl)
    (hdb : (x == ("__debug__" : Str)) = false := by decide) : PE X (.Call (.Name x p) [e] [] pos) (tErr C f te) := by
  refine ⟨fun pins s σ H Q I h => ?_⟩
  refine wpAny_Call_Name_kw (ld_glob I hg gC ?_ hdb)
  refine PySem.W.callWith_K (h₀ := X.base) I.ok.mod.kin T.t.kC ?_ hs (by rfl)
  rw [hs]
  show wpAny _ _ (spliced ((false, eval e X.env) :: backTo pos (starEach [] X.env))) _ _ s
  refine Calls.spliced_cons (thn (he.run pins s σ H _ I h) fun u s1 ⟨y, H1, I1, r1, q1⟩ => ?_)
  refine Calls.spliced_nil ⟨I1.kIn, ?_⟩
  exact run_err Z T hr I1 r1 (.inl ⟨rfl, rfl⟩) q1
theorem pe_errK (Z : Root B newId initId bmB) (T : Err1 X.prog X.K X.mg newId initId bmB C W fI f) (hr : Room (k + 1) X.A) (gC : X.mg x = some (.ref C)) (hg : Gl X x) (he : PE X e te)
    (hdb : (x == ("__debug__" : Str)) = false := by decide) : PE X (.Call (.Name x p) [] [⟨some f, e, kpos⟩] pos) (tErr C f te) := by
  refine ⟨fun pins s σ H Q I h => ?_⟩
  refine wpAny_Call_Name_kw (ld_glob I hg gC ?_ hdb)
  refine PySem.W.callWith_KW0 (h₀ := X.base) I.ok.mod.kin T.t.kC (by rfl) ?_ (by rfl)
  have hk : PK X [⟨some f, e, kpos⟩] (tCons te tNil) := pk_cons he pk_nil
  refine thn (hk.run pos pins s σ H (fun vs H1 => match vs with | [y] => ∀ a d, H1 a = none → H1 d = none → d ≠ a → Q (.ref a) (upd (upd H1 d (exd d [(f, y)])) a (exo a C (some d))) | _ => False) I h) fun us s1 ⟨vs, H1, I1, r1, q1⟩ => ⟨I1.kIn, ?_⟩
  cases r1 with
  | nil => exact q1.elim
  | cons ry rn =>
    cases rn with
    | nil => exact run_err Z T hr I1 ry (.inr ⟨rfl, rfl⟩) q1
    | cons r2 rn => exact q1.elim
end
/-- an error stands at a -/
def IsE (H : Hp) (a C : Addr) : Prop := (∃ dd fs, H a = some (exo a C (some dd)) ∧ H dd = some (exd dd fs)) ∨ H a = some (exo a C none) ∨ H a = some (ExO (.ref C) a)
/-- what the class says, so that isinstance asks its errors rightly -/
structure IsC (K : Frag) (C : Addr) : Prop where
  cl : (PySem.W.clsIn K C).isSome = true
  ga : PySem.W.findIn K (.ref C) "__getattribute__" = some (some (.builtin "BaseException.__getattribute__"))
  gg : PySem.W.findIn K (.ref C) "__getattr__" = some none
  ex : PySem.W.subIn K (.ref C) (.type "BaseException") = some true
  ha : PySem.W.findIn K (.ref C) "__class__" = some (some (.builtin "object.__class__"))
  hn : PySem.W.specialIn K (.builtin "object.__class__") "__get__" = some (some (.builtin "getset_descriptor.__get__"))
  ht : PySem.W.takesIn K (.builtin "object.__class__") = some true
  hm : PySem.W.mroIn K C (.type "object") = some true
section
variable {X : Cx} {pins : List (Addr × Obj)} {σ : St} {H : Hp} {s : Shared} {a C : Addr}
theorem isE_inst (I : Inv X pins σ H s) (h : IsE H a C) : ∃ ox od, PySem.W.InstAt s.heap a ox C od := by
  rcases h with ⟨dd, fs, h1, h2⟩ | h1 | h1
  · obtain ⟨t1, e1⟩ := exo_at I.hok h1
    obtain ⟨mA, ⟨od, es, ep, e2, _⟩, _⟩ := exd_at I.hok h2
    exact ⟨_, some od, e1, rfl, rfl, e2⟩
  · obtain ⟨t1, e1⟩ := exo_at I.hok h1
    exact ⟨_, none, e1, rfl, rfl, trivial⟩
  · have z : ObjOk X.prog X.w H s.heap a (ExO (.ref C) a) := I.hok a _ h1
    obtain ⟨⟨oe, vs, ho, hz, hd, _⟩, _, _⟩ := z
    obtain ⟨oc, od, oda, osl⟩ := oe
    obtain ⟨z1, z2⟩ := hz
    dsimp only at z1 z2 hd
    subst z1 z2 hd
    exact ⟨_, none, ho, rfl, rfl, trivial⟩
/-- isinstance(e, c), e an error -/
def rIsE (K : Frag) : List V → Hp → VK → Prop := fun xs H Q => ∃ (a C : Addr) (c : V) (u : Value) (b : Bool), xs = [.ref a, c] ∧ ClsV c u ∧ IsE H a C ∧ IsC K C ∧ PySem.W.kitOne K (.ref C) u = some b ∧ Q (.bl b) H
theorem call_isE {X : Cx} : CallR X (.builtin "isinstance") (rIsE X.K) := by
  intro pins s σ H xs us Q I r h
  obtain ⟨a, C, c, u, b, rfl, kc, ie, T, e, q⟩ := h
  obtain ⟨u1, u2, rfl, r1, r2⟩ := vals2 r
  have e2 := kc.eq r2
  subst e2
  cases (show u1 = Value.ref a from r1)
  obtain ⟨ox, od, J⟩ := isE_inst I ie
  exact PySem.W.kia_one (PySem.W.kitx_exc (gt := none) T.cl T.ga T.gg T.ex T.ha T.hn T.ht T.hm) I.kIn J e (fun z => nomatch z) fun tk => ⟨.bl b, H, I.tok tk, rfl, q⟩
/-- e.f, e an error with a dict -/
def tEf (K : Frag) (f : Str) (te : TE) : TE := fun σ H Q => te σ H fun x H1 => ∃ (a C dd : Addr) (fs : List (Str × V)) (v : V), x = .ref a ∧ H1 a = some (exo a C (some dd)) ∧ H1 dd = some (exd dd fs) ∧ fs.lookup f = some v ∧ XfC K C ∧ PySem.W.findIn K (.ref C) f = some none ∧ Q v H1
theorem pe_ef {X : Cx} {e : Expr} {te : TE} {pos : Pos} {n : Str} (he : PE X e te) (hb : attributeBase e n X.env (eval e X.env) = eval e X.env := by rfl) : PE X (.Attribute e n pos) (tEf X.K n te) := by
  refine ⟨fun pins s σ H Q I h => ?_⟩
  refine attr_of hb (thn (he.run pins s σ H _ I h) fun u s1 hh => ?_)
  obtain ⟨x, H1, I1, rx, a, C, dd, fs, v, ex, ea, ed, l, T, hno, q⟩ := hh
  subst ex
  obtain rfl : u = Value.ref a := rx
  obtain ⟨t1, e1⟩ := exo_at I1.hok ea
  obtain ⟨mA, hns, hr⟩ := exd_at I1.hok ed
  obtain ⟨od, ho, hl⟩ := lookIn_ns hns
  obtain ⟨u, hu, ru⟩ := RelO.some_of (v := v) (o := mA n) (by rw [← l]; exact hr n)
  have J : PySem.W.InstAt s1.heap a _ C (some od) := ⟨e1, rfl, rfl, ho⟩
  exact HandSPX.exc_get I1.kIn J T.ga T.gg T.exC (PySem.W.findObj_own T.hdC hno rfl (by rw [hl, hu])) (handed_of ru) ⟨v, H1, I1.tok _, ru, q⟩
end
end Fx
set_option Elab.async false
set_option linter.all false
set_option maxRecDepth 100000
set_option maxHeartbeats 4000000
namespace Fx
open PySem PySem.W PySem.Calls PyProof.Rows PySem.HandSPX
open Builtin Builtin.ObjectAttr
/-- an __init__ without parameters -/
def Fn0 (prog : Program) (K : Frag) (C fI : Addr) : Prop := ∃ (oc : Value) (od : Option Addr) (qual msg : Str) (kM : Nat) (kV doc pm : Value) (an : Option Addr) (cda cc : Addr) (ct : Value) (osl : Array (Option Value)) (p1 q1 q2 q3 q4 q5 q6 : Pos) (vs : Array Value) (file : Str) (tf : Tok) (ccl cl : Value) (cdd cld : Option Addr) (ccs csl : Array (Option Value)),
    K.lookup fI = some ⟨oc, od, .func (ksFn "__init__" qual (iA0 p1) [iSup msg kM q1 q2 q3 q4 q5 q6] iS0 .none kV doc pm an (.ref cda) ct cc), osl⟩ ∧ codeIn K (.ref cda) qual = true ∧
    K.lookup cda = some ⟨ccl, cdd, .fields vs, ccs⟩ ∧ vs[2]? = some (.str file tf) ∧ ((prog.main.file : Str) == file) = true ∧ K.lookup cc = some ⟨cl, cld, .cell (some (.ref C)), csl⟩ ∧ (prog.main.scope.names.lookup ("super" : Str)).isSome = false ∧ (q3.endLine == q5.line) = true
section
variable {prog : Program} {w : World} {A : Around} {R : Result → Shared → Prop} {s : Shared} {B newId initId : String} {bmB : List Value} {K : Frag} {mg : Str → Option Value} {base : Heap} {C W fI : Addr}
theorem init0 (Z : Root B newId initId bmB) (T : ErrT K mg newId initId bmB C W fI) (M : L2.Mod K mg base) (kb : ∀ b o, base.get? b = some o → s.heap.get? b = some o)
    (N : Fn0 prog K C fI) {x t0 : Addr} (hx : s.heap.get? x = some (excO C t0)) (hroom : A.depth < recursionLimit)
    (hq : ∀ h' tk t1, (∀ b o, b ≠ x → s.heap.get? b = some o → h'.get? b = some o) → h'.get? x = some (excD C t1 none) → R (.ok (.ret .none)) { s with heap := h', toks := tk }) :
    codeAny (model prog w) A (.call (.ref fI) ⟨[.ref x], []⟩) R s := by
  obtain ⟨oc, od, qual, msg, kM, kV, doc, pm, an, cda, cc, ct, osl, p1, q1, q2, q3, q4, q5, q6, vs, file, tf, ccl, cl, cdd, cld, ccs, csl, lf, lcd, lc, hvs, hfile, lcell, htop, hl1⟩ := N
  have X : K.In s.heap := M.kin.keeps kb
  refine ks_codeAny_call_defAt (fd := ksFn "__init__" qual (iA0 p1) [iSup msg kM q1 q2 q3 q4 q5 q6] iS0 .none kV doc pm an (.ref cda) ct cc) (body := [iSup msg kM q1 q2 q3 q4 q5 q6]) (binds := [("self", .ref x)]) hroom (X _ _ lf) rfl (M.nolimit.keeps kb) (codeRec_of X lcd) rfl (.of_eq rfl) cellS0 (locS0 _) (fun h₁ hns hk₁ => ?_) rfl rfl rfl
  refine ks_wpAt_execs_cons (sup_stmt Z T M (fun b o e => hk₁ b o (kb b o e)) lf rfl rfl lc hvs hfile lcell htop rfl rfl rfl hl1 rfl rfl hns (m := fun y => [((PySem.Str.ofString "self" : Str), Value.ref x)].reverse.lookup y) (by rfl) (hk₁ _ _ hx) fun h₂ tk₂ t2 k₂ e₂ => ?_)
  refine _root_.PySem.wpAt_of_wpAny ?_
  exact wpAny_execs_nil (hq h₂ tk₂ t2 (fun b o hb e => k₂ b o hb (hk₁ b o e)) e₂)
end
end Fx
namespace Fx
open PySem L2
open PySem.W (Frag)
section
variable {X : Cx} {pins : List (Addr × Obj)} {σ : St} {H : Hp} {s : Shared} {B newId initId : String} {bmB : List Value} {C W fI : Addr} {k : Nat} {x : Str} {p pos : Pos}
/-- C(), C's __init__ without parameters -/
theorem pe_err0 (Z : Root B newId initId bmB) (T : ErrT X.K X.mg newId initId bmB C W fI) (N : Fn0 X.prog X.K C fI) (hr : Room (k + 1) X.A) (gC : X.mg x = some (.ref C)) (hg : Gl X x)
    (hdb : (x == ("__debug__" : Str)) = false := by decide) : PE X (.Call (.Name x p) [] [] pos) (fun σ H Q => ∀ a, H a = none → Q (.ref a) (upd H a (exo a C none))) := by
  refine ⟨fun pins s σ H Q I h => ?_⟩
  refine wpAny_Call_Name_kw (ld_glob I hg gC ?_ hdb)
  refine PySem.W.callWith_K0 I.kIn T.kC ?_
  obtain ⟨nm, q, N', bs, sn, sub, ab, col, dd, k0, k1, k2, k3, k5, hC⟩ := T.cls
  obtain ⟨hp, g, dr, tk, os⟩ := s
  have kk : ∀ b o, hp.get? b = some o → ((hp.push (PySem.W.kdv_tup [])).push (PySem.HandSPX.excO C hp.objs.size)).get? b = some o := fun b o e => Heap.get?_push_of_some _ (Heap.get?_push_of_some _ e)
  have hget : ((hp.push (PySem.W.kdv_tup [])).push (PySem.HandSPX.excO C hp.objs.size)).get? (hp.objs.size + 1) = some (PySem.HandSPX.excO C hp.objs.size) := by heap_get
  show wpAny _ _ (call (.ref C) []) _ _ _
  refine wpAny_call (kw_call Z.fb (hT_of Z W) (I.kIn _ _ hC) (PySem.W.looks_findIn I.kIn T.iC) (fun self => PySem.W.bind_fn I.kIn self T.tI) (by show 0 ≤ sizeLine; exact Nat.zero_le _) ?_)
  refine init0 (s := ⟨(hp.push (PySem.W.kdv_tup [])).push (PySem.HandSPX.excO C hp.objs.size), g, dr, tk, os⟩) Z T I.ok.mod (fun b o e => kk b o (I.bk b o e)) N hget ?_ fun h' tk' t1 k1 e1 => ?_
  · rw [make_depth]
    have := hr.dp
    omega
  · have old : ∀ b o, hp.get? b = some o → h'.get? b = some o := fun b o e => k1 b o (Nat.ne_of_lt (Nat.lt_succ_of_lt (Heap.lt_size e))) (kk b o e)
    have na : H (hp.objs.size + 1) = none := I.hok.fresh (Nat.le_succ _)
    exact ⟨rfl, .ref (hp.objs.size + 1), _, I.laid (t' := tk') (a := hp.objs.size + 1) (o := exo (hp.objs.size + 1) C none) old (Nat.le_succ _) (exo_ok e1), rfl, h _ na⟩
/-- C(), C without an __init__ of its own -/
theorem pe_exc0 {bm0 : List Value} (F : ExcBaseFacts B newId initId bm0) (q : PySem.W.excIn X.K C bm0 newId = true) (gC : X.mg x = some (.ref C)) (kC : PySem.W.keepIn X.K (.ref C) = true) (hg : Gl X x)
    (hdb : (x == ("__debug__" : Str)) = false := by decide) : PE X (.Call (.Name x p) [] [] pos) (fun σ H Q => ∀ a, H a = none → Q (.ref a) (upd H a (ExO (.ref C) a))) := by
  refine ⟨fun pins s σ H Q I h => ?_⟩
  refine wpAny_Call_Name_kw (ld_glob I hg gC ?_ hdb)
  refine PySem.W.callWith_K0 I.kIn kC ?_
  show wpAny _ _ (call (.ref C) []) _ _ _
  obtain ⟨bm, N, nm, qn, bs, hdct, sn, sub, ab, col, dd, k0, k1, k2, k3, k5, mN, hC, hN, hni, T⟩ := exc_obj I.kIn q
  refine wpAny_call_exc_subT F T hC hN hni (fun h' a hm => ?_) (Nat.zero_le _)
  have hn : H a = none := I.hok.gone hm.new
  obtain ⟨t, ht, _, _⟩ := hm.there
  exact ⟨.ref a, upd H a (ExO (.ref C) a), I.laidN hm.keeps hm.new hn (exO_ok ht ⟨rfl, rfl⟩ rfl rfl rfl (show 4 < 6 by decide)), rfl, h a hn⟩
end
end Fx
set_option Elab.async false
set_option linter.all false
set_option maxRecDepth 100000
set_option maxHeartbeats 4000000
namespace Rl
open PySem PySem.Spec PyProof.Rows L2 Gd
/-! rules whose readings say of a new object only that it stands, and that all stands that stood -/
theorem same_new {H : Hp} {p : Addr} {o : HO} (n : H p = none) : Same H (upd H p o) := fun b u e => by
  rw [upd_ne (ne_of_none e n)]
  exact e
theorem Same.seqT {K : PySem.W.Frag} {H H' : Hp} {a : Addr} {xs : List V} (e : Same H H') (h : SqT K H a xs) : SqT K H' a xs := by
  rcases h with (h | ⟨o, h⟩) | h
  · exact .inl (.inl (e _ _ h))
  · exact .inl (.inr ⟨o, e _ _ h⟩)
  · exact .inr h
mutual
theorem dp_same {K : PySem.W.Frag} {H H' : Hp} (e : Same H H') : ∀ (d : PyData) {v : V}, Dp K H v d → Dp K H' v d
  | .none, _, h => by cases h; exact .non
  | .bool b, _, h => by cases h; exact .bl b
  | .int i, _, h => by cases h; exact .int i
  | .str z, _, h => by cases h; exact .str z
  | .list ds, _, h => by
    cases h with
    | lst hs ha => exact .lst (e.seq hs) (dp_sameAll e ds ha)
  | .tuple ds, _, h => by
    cases h with
    | tup hs ha => exact .tup (Same.seqT e hs) (dp_sameAll e ds ha)
  | .dict _, _, h => by cases h
theorem dp_sameAll {K : PySem.W.Frag} {H H' : Hp} (e : Same H H') : ∀ (ds : List PyData) {vs : List V}, DpAll K H vs ds → DpAll K H' vs ds
  | [], _, h => by cases h; exact .nil
  | d :: ds, _, h => by
    cases h with
    | cons h1 h2 => exact .cons (dp_same e d h1) (dp_sameAll e ds h2)
end
theorem rp_same {K : PySem.W.Frag} {H H' : Hp} (e : Same H H') {d : PyData} {v : V} (h : Rp K H v d) : Rp K H' v d := by
  rcases h with h | ⟨a, kvs, ds, rfl, ha, hp, rfl⟩
  · exact .inl (dp_same e d h)
  · exact .inr ⟨a, kvs, ds, rfl, e _ _ ha, hp, rfl⟩
/-- a new object o at p -/
def New (H : Hp) (p : Addr) (o : HO) (H' : Hp) : Prop := H p = none ∧ H' p = some o ∧ Same H H'
theorem New.mk' {H : Hp} {p : Addr} {o : HO} (n : H p = none) : New H p o (upd H p o) := ⟨n, upd_same, same_new n⟩
def tTupR (t : TA) : TE := fun σ H Q => t σ H fun xs H1 => xs.length ≤ 1000 ∧ ∀ p H2, New H1 p (.tup xs) H2 → Q (.ref p) H2
def tLstR (t : TA) : TE := fun σ H Q => t σ H fun xs H1 => xs.length ≤ 1000 ∧ ∀ p H2, New H1 p (.lst xs) H2 → Q (.ref p) H2
section
variable {X : Cx} {es : List Expr} {t : TA} {pos : Pos}
theorem sz1000 {n : Nat} (h : n ≤ 1000) : n ≤ sizeLine := Nat.le_of_lt (small1000 h)
theorem pe_tupR {x1} (h : PA X es t) : PE X (.Tuple es x1 pos) (tTupR t) := by
  refine ⟨fun pins s σ H Q I hq => ?_⟩
  refine wpAny_Tuple_spliced (thn (h.run pos pins s σ H _ I hq) fun us s1 ⟨xs, H1, I1, r, z, q⟩ => ⟨by rw [← r.length]; exact sz1000 z, ?_⟩)
  have hf : H1 s1.heap.objs.size = none := I1.hok.fresh (Nat.le_refl _)
  exact ⟨.ref s1.heap.objs.size, upd H1 s1.heap.objs.size (.tup xs), I1.laid (t' := s1.toks) (fun b u e => Heap.get?_push_of_some _ e) (Nat.le_refl _) ⟨sz1000 z, us, r, ⟨_, Heap.get?_push_size _ rfl, rfl, _, rfl⟩⟩, rfl, q _ _ (.mk' hf)⟩
theorem pe_lstR (h : PA X es t) : PE X (.List es pos) (tLstR t) := by
  refine ⟨fun pins s σ H Q I hq => ?_⟩
  refine wpAny_List_spliced (thn (h.run pos pins s σ H _ I hq) fun us s1 ⟨xs, H1, I1, r, z, q⟩ => ⟨by rw [← r.length]; exact sz1000 z, ?_⟩)
  have hf : H1 s1.heap.objs.size = none := I1.hok.fresh (Nat.le_refl _)
  exact ⟨.ref s1.heap.objs.size, upd H1 s1.heap.objs.size (.lst xs), I1.laid (t' := s1.toks) (fun b u e => Heap.get?_push_of_some _ e) (Nat.le_refl _) ⟨sz1000 z, us, 0, r, Heap.get?_push_size _ rfl⟩, rfl, q _ _ (.mk' hf)⟩
theorem pe_dnewR : PE X (.Dict [] [] pos) (fun σ H Q => ∀ p H2, New H p (.dK []) H2 → Q (.ref p) H2) :=
  ⟨fun pins s σ H Q I h => pe_dnewK.run pins s σ H Q I fun p np => h p _ (.mk' np)⟩
def rCatR : R2 := fun x y H Q => ∃ l b xs zs, x = .ref l ∧ y = .ref b ∧ H l = some (.lst xs) ∧ H b = some (.lst zs) ∧ xs.length + zs.length ≤ 1000 ∧ ∀ p H2, New H p (.lst (xs ++ zs)) H2 → Q (.ref p) H2
theorem op_catR : OpR X (binaryOp .Add) rCatR := by
  intro pins s σ H x y v u Q I rx ry h
  obtain ⟨l, b, xs, zs, e1, e2, h1, h2, z, q⟩ := h
  exact op_cat pins s σ H x y v u Q I rx ry ⟨l, b, xs, zs, e1, e2, h1, h2, sz1000 z, fun p np => q p _ (.mk' np)⟩
def rRepR : R2 := fun x y H Q => ∃ l k xs, x = .ref l ∧ y = .int k ∧ H l = some (.lst xs) ∧ 0 ≤ k ∧ k ≤ 100 ∧ xs.length * k.toNat ≤ 1000 ∧ ∀ p H2, New H p (.lst (List.replicate k.toNat xs).flatten) H2 → Q (.ref p) H2
theorem op_repR : OpR X (binaryOp .Mult) rRepR := by
  intro pins s σ H x y v u Q I rx ry h
  obtain ⟨l, k, xs, e1, e2, h1, h2, h3, z, q⟩ := h
  exact op_rep pins s σ H x y v u Q I rx ry ⟨l, k, xs, e1, e2, h1, by omega, by omega, sz1000 z, fun p np => q p _ (.mk' np)⟩
def rSlR (K : PySem.W.Frag) : V → Option Int → Option Int → Hp → VK → Prop := fun x lo hi H Q => ∃ a xs, x = .ref a ∧ SqL K H a xs ∧ ∀ p H2, New H p (.lst (cutV xs lo hi)) H2 → Q (.ref p) H2
theorem sl_listR : SlR X (rSlR X.K) := by
  intro pins s σ H x v vl vu lo hi sl Q I rx hs pl pu h
  obtain ⟨a, xs, e1, h1, q⟩ := h
  exact sl_list pins s σ H x v vl vu lo hi sl Q I rx hs pl pu ⟨a, xs, e1, h1, fun p np => q p _ (.mk' np)⟩
end
end Rl
namespace Fx
open PySem L2 Rl
open PySem.W (Frag)
/-- an error of the class at C with the one attribute f -/
def ErrAt (H : Hp) (a C : Addr) (f : Str) (y : V) : Prop := ∃ d, H a = some (exo a C (some d)) ∧ H d = some (exd d [(f, y)])
theorem ErrAt.same {H H' : Hp} (s : Same H H') {a C : Addr} {f : Str} {y : V} (h : ErrAt H a C f y) : ErrAt H' a C f y :=
  let ⟨d, h1, h2⟩ := h
  ⟨d, s _ _ h1, s _ _ h2⟩
theorem errAt_new {H : Hp} {a d C : Addr} {f : Str} {y : V} (na : H a = none) (nd : H d = none) (ne : d ≠ a) : ErrAt (upd (upd H d (exd d [(f, y)])) a (exo a C (some d))) a C f y ∧ Same H (upd (upd H d (exd d [(f, y)])) a (exo a C (some d))) :=
  ⟨⟨d, upd_same, by rw [upd_ne ne, upd_same]⟩, fun b u e => by rw [upd_ne (ne_of_none e na), upd_ne (ne_of_none e nd)]; exact e⟩
def tErrR (C : Addr) (f : Str) (te : TE) : TE := fun σ H Q => te σ H fun y H1 => ∀ a H2, ErrAt H2 a C f y → Same H1 H2 → Q (.ref a) H2
section
variable {X : Cx} {B newId initId : String} {bmB : List Value} {C W fI : Addr} {f : Str} {k : Nat} {x : Str} {p pos kpos : Pos} {e : Expr} {te : TE}
theorem pe_errR (Z : Root B newId initId bmB) (T : Err1 X.prog X.K X.mg newId initId bmB C W fI f) (hr : Room (k + 1) X.A) (gC : X.mg x = some (.ref C)) (hg : Gl X x) (he : PE X e te) (hs : starEach [e] X.env = (false, eval e X.env) :: starEach [] X.env := by rfl)
    (hdb : (x == ("__debug__" : Str)) = false := by decide) : PE X (.Call (.Name x p) [e] [] pos) (tErrR C f te) := by
  refine ⟨fun pins s σ H Q I h => ?_⟩
  refine wpAny_Call_Name_kw (ld_glob I hg gC ?_ hdb)
  refine PySem.W.callWith_K (h₀ := X.base) I.ok.mod.kin T.t.kC ?_ hs (by rfl)
  rw [hs]
  show wpAny _ _ (spliced ((false, eval e X.env) :: backTo pos (starEach [] X.env))) _ _ s
  refine Calls.spliced_cons (thn (he.run pins s σ H _ I h) fun u s1 ⟨y, H1, I1, r1, q1⟩ => ?_)
  exact Calls.spliced_nil ⟨I1.kIn, run_err Z T hr I1 r1 (.inl ⟨rfl, rfl⟩) fun a d na nd ne => q1 a _ (errAt_new na nd ne).1 (errAt_new na nd ne).2⟩
theorem pe_errKR (Z : Root B newId initId bmB) (T : Err1 X.prog X.K X.mg newId initId bmB C W fI f) (hr : Room (k + 1) X.A) (gC : X.mg x = some (.ref C)) (hg : Gl X x) (he : PE X e te)
    (hdb : (x == ("__debug__" : Str)) = false := by decide) : PE X (.Call (.Name x p) [] [⟨some f, e, kpos⟩] pos) (tErrR C f te) := by
  refine ⟨fun pins s σ H Q I h => ?_⟩
  refine wpAny_Call_Name_kw (ld_glob I hg gC ?_ hdb)
  refine PySem.W.callWith_KW0 (h₀ := X.base) I.ok.mod.kin T.t.kC (by rfl) ?_ (by rfl)
  have hk : PK X [⟨some f, e, kpos⟩] (tCons te tNil) := pk_cons he pk_nil
  refine thn (hk.run pos pins s σ H (fun vs H1 => match vs with | [y] => ∀ a H2, ErrAt H2 a C f y → Same H1 H2 → Q (.ref a) H2 | _ => False) I h) fun us s1 ⟨vs, H1, I1, r1, q1⟩ => ⟨I1.kIn, ?_⟩
  cases r1 with
  | nil => exact q1.elim
  | cons ry rn =>
    cases rn with
    | nil => exact run_err Z T hr I1 ry (.inr ⟨rfl, rfl⟩) fun a d na nd ne => q1 a _ (errAt_new na nd ne).1 (errAt_new na nd ne).2
    | cons r2 rn => exact q1.elim
end
end Fx
set_option Elab.async false
set_option linter.all false
set_option maxRecDepth 100000
set_option maxHeartbeats 4000000
namespace Rl
open PySem PySem.Spec PyProof.Rows L2 Gd
/-! comprehensions whose readings say what each item is -/
section
variable {J : It} {n : Nat} {G : Hp → Prop} {Y : Nat → Hp → V → Hp → Prop}
/-- [e for x in it]: each item y keeps E, which says of the heap without the list that grows -/
theorem lcR (w : Walk J n G Y) {g : TG} {te : TE} {vs : List Nat} {σ : L2.St} {H1 : Hp} {Q : Addr → Hp → Prop} (n1 : n ≤ 1000) (hG : ∀ H, Same H1 H → G H) (E : Nat → V → Hp → Prop) (hE : ∀ i y H H', Same H H' → E i y H → E i y H')
    (turn : ∀ (D : Addr) (acc : List V) (i : Nat) (x : V) (H H' : Hp) (K : V → Hp → Prop), i < n → Same H1 H → H1 D = none → H D = some (.lst acc) → Y i H x H' → (∀ y H4, Same H H4 → E i y (delH H4 D) → K y H4) → g x (wipe σ vs) H' fun σ2 H2 => wipe σ2 vs = wipe σ vs ∧ te σ2 H2 K)
    (done : ∀ (D : Addr) (H' : Hp) (ys : List V), New H1 D (.lst ys) H' → ys.length = n → (∀ i y, ys[i]? = some y → E i y (delH H' D)) → Q D H') :
    ∀ D, H1 D = none → ∃ W : Nat → Nat → Hp → Prop, (∃ m, W 0 m (upd H1 D (.lst []))) ∧ ∀ i m H, W i m H →
      (J.stop i H ∧ Q D H) ∨ (J.go i H ∧ ∃ Nx : Hp → Prop, (∀ H', Nx H' → ∃ m', m' < m ∧ W (i + 1) m' H') ∧ ∀ x H', J.yld i H x H' → g x (wipe σ vs) H' fun σ2 H2 => wipe σ2 vs = wipe σ vs ∧ tYes σ2 H2 fun b H3 =>
        if b = true then te σ2 H3 fun y H4 => ∃ acc, H4 D = some (.lst acc) ∧ acc.length < sizeLine ∧ Nx (upd H4 D (.lst (acc ++ [y]))) else Nx H3) := by
  intro D hD
  refine lc_it w (Qd := fun H => Q D H) (fun i H => Same H1 H ∧ ∃ acc, H D = some (.lst acc) ∧ acc.length = i ∧ ∀ j y, acc[j]? = some y → E j y (delH H D)) ⟨same_new hD, [], upd_same, rfl, fun j y e => by simp at e⟩ (fun i H _ ⟨s, _⟩ => hG H s) ?_ ?_
  · rintro i x H H' hi ⟨s, acc, ha, hl, he⟩ y
    refine turn D acc i x H H' _ hi s hD ha y fun v H4 s4 e4 => ?_
    have hD4 := s4 _ _ ha
    refine ⟨acc, hD4, small1000 (by omega), fun b u e => ?_, acc ++ [v], upd_same, by rw [List.length_append, hl]; rfl, fun j z ej => ?_⟩
    · rw [upd_ne (ne_of_none e hD)]
      exact s4 _ _ (s b u e)
    · have up : ∀ {Ha : Hp}, Same Ha H4 → Same (delH Ha D) (delH (upd H4 D (.lst (acc ++ [v]))) D) := fun {Ha} sa b u e => by
        by_cases q : b = D
        · rw [q, delH_same] at e
          cases e
        · rw [delH_ne q] at e
          rw [delH_ne q, upd_ne q]
          exact sa b u e
      by_cases q : j < acc.length
      · rw [List.getElem?_append_left q] at ej
        exact hE _ _ _ _ (up s4) (he j z ej)
      · rw [List.getElem?_append_right (by omega)] at ej
        have e0 : j - acc.length = 0 := by
          cases r : j - acc.length with
          | zero => rfl
          | succ m =>
            rw [r] at ej
            simp at ej
        rw [e0] at ej
        have ez : v = z := by simpa using ej
        subst ez
        have ej2 : j = i := by omega
        subst ej2
        exact hE _ _ _ _ (up (Same.refl _)) e4
  · rintro H ⟨s, acc, ha, hl, he⟩
    exact done D H acc ⟨hD, ha, s⟩ hl he
end
/-- a list told item by item -/
theorem list_of {n : Nat} {ys : List V} {f : Nat → V} (hl : ys.length = n) (h : ∀ i y, ys[i]? = some y → y = f i) : ys = (List.range n).map f := by
  apply List.ext_getElem
  · rw [hl, List.length_map, List.length_range]
  · intro i h1 h2
    rw [List.getElem_map, List.getElem_range]
    exact h i _ (by simp [h1])
/-! ### types of data -/
def tyN : PyData → String
  | .none => "NoneType"
  | .bool _ => "bool"
  | .int _ => "int"
  | .str _ => "str"
  | .list _ => "list"
  | .tuple _ => "tuple"
  | .dict _ => "dict"
theorem sql_ty {K : PySem.W.Frag} {H : Hp} {a : Addr} {xs : List V} (h : SqL K H a xs) : TyX K H (.ref a) (.type "list") := by
  rcases h with (h | ⟨o, h⟩) | ⟨o, its, n, h, c, _⟩
  · exact .base (.lst h)
  · exact .base (.frz h)
  · exact .kList h c
theorem sqt_ty {K : PySem.W.Frag} {H : Hp} {a : Addr} {xs : List V} (h : SqT K H a xs) : TyX K H (.ref a) (.type "tuple") := by
  rcases h with (h | ⟨o, h⟩) | ⟨o, its, n, h, c, _⟩
  · exact .base (.tup h)
  · exact .fTuple h
  · exact .kTuple h c
theorem rp_ty {K : PySem.W.Frag} {H : Hp} {v : V} {d : PyData} (h : Rp K H v d) : TyX K H v (.type (tyN d)) := by
  rcases h with h | ⟨a, kvs, ds, rfl, ha, _, rfl⟩
  · cases h with
    | non => exact .base .non
    | bl b => exact .base (.bl b)
    | int i => exact .base (.int i)
    | str z => exact .base (.str z)
    | lst h _ => exact sql_ty h
    | tup h _ => exact sqt_ty h
  · exact .base (.dK ha)
/-- isinstance(x, T), T a built-in type, x data -/
def rIsD (K : PySem.W.Frag) (T : String) : List V → Hp → VK → Prop := fun xs H Q => ∃ (v : V) (d : PyData) (b : Bool), xs = [v, .ty T] ∧ Rp K H v d ∧ kitB (tyN d) T = some b ∧ Q (.bl b) H
theorem call_isD {X : Cx} {T : String} : CallR X (.builtin "isinstance") (rIsD X.K T) := by
  intro pins s σ H xs us Q I r h
  obtain ⟨v, d, b, e, hd, hb, q⟩ := h
  exact call_isi pins s σ H xs us Q I r ⟨v, .ty T, .type (tyN d), .type T, b, e, .ty T, rp_ty hd, kit_ty hb, q⟩
theorem kit_int (d : PyData) : kitB (tyN d) "int" = some (match d with | .int _ => true | .bool _ => true | _ => false) := by
  cases d <;> (first | decide +kernel | (simp only [tyN]; decide +kernel))
theorem kit_bool (d : PyData) : kitB (tyN d) "bool" = some (match d with | .bool _ => true | _ => false) := by
  cases d <;> (first | decide +kernel | (simp only [tyN]; decide +kernel))
theorem kit_str (d : PyData) : kitB (tyN d) "str" = some (match d with | .str _ => true | _ => false) := by
  cases d <;> (first | decide +kernel | (simp only [tyN]; decide +kernel))
theorem kit_tuple (d : PyData) : kitB (tyN d) "tuple" = some (match d with | .tuple _ => true | _ => false) := by
  cases d <;> (first | decide +kernel | (simp only [tyN]; decide +kernel))
theorem dp_at {K : PySem.W.Frag} {H : Hp} : ∀ {vs : List V} {ds : List PyData}, DpAll K H vs ds → ∀ {i : Nat} {v : V}, vs[i]? = some v → ∃ d, ds[i]? = some d ∧ Dp K H v d
  | _, _, .nil, i, v, e => by simp at e
  | _, _, .cons a b, 0, v, e => by
    simp at e
    subst e
    exact ⟨_, rfl, a⟩
  | _, _, .cons a b, i + 1, v, e => dp_at b (i := i) (by simpa using e)
theorem dp_len {K : PySem.W.Frag} {H : Hp} : ∀ {vs : List V} {ds : List PyData}, DpAll K H vs ds → vs.length = ds.length
  | _, _, .nil => rfl
  | _, _, .cons a b => by
    rw [List.length_cons, List.length_cons, dp_len b]
theorem dp_of {K : PySem.W.Frag} {H : Hp} : ∀ {vs : List V} {ds : List PyData}, vs.length = ds.length → (∀ (i : Nat) (v : V), vs[i]? = some v → ∃ d, ds[i]? = some d ∧ Dp K H v d) → DpAll K H vs ds
  | [], [], _, _ => .nil
  | [], _ :: _, h, _ => by simp at h
  | _ :: _, [], h, _ => by simp at h
  | v :: vs, d :: ds, h, e => by
    obtain ⟨d', e1, e2⟩ := e 0 v rfl
    have e3 : d = d' := by simpa using e1
    subst e3
    exact .cons e2 (dp_of (by simpa using h) fun i v q => e (i + 1) v (by simpa using q))
end Rl
set_option Elab.async false
set_option linter.all false
set_option maxRecDepth 100000
set_option maxHeartbeats 8000000
namespace Pg
open PySem PySem.Spec PyProof.Rows L2 Gd Rl
def top (i : Nat) : Stmt := PySem.Challenge.pw_fallranks_k56_errors_of_leads.main.body.getD i (.Pass ⟨0, 0, 0, 0⟩)
abbrev FnP (K : PySem.W.Frag) (x : Str) (st : Stmt) (f : Addr) (fd : FuncData) : Prop := FunD K x x (defArgs st) (defBody st) (defScope st) [] [] f fd
abbrev sInt : Stmt := top 27
abbrev sName : Stmt := top 29
abbrev sInts : Stmt := top 30
abbrev sForm : Stmt := top 31
abbrev sForms : Stmt := top 32
/-! ### what data is, in plain Lean -/
def letS : Str := "abcdefghijklmnopqrstuvwxyz"
def figS : Str := "0123456789"
def intB : PyData → Bool
  | .int _ => true
  | _ => false
def nameS (z : Str) : Bool := match z.cps.toList with
  | [] => false
  | c :: r => decide ((c :: r).length ≤ 8) && (decide (c ∈ letS.cps.toList) && (c :: r).all fun c => decide (c ∈ (letS ++ figS).cps.toList))
def nameB : PyData → Bool
  | .str z => nameS z
  | _ => false
def numB : PyData → Bool
  | .int i => decide (-1000000 ≤ i) && decide (i ≤ 1000000)
  | _ => false
def intsB (n : Nat) : PyData → Bool
  | .tuple ds => decide (ds.length = n) && ds.all intB
  | _ => false
def formB (m : Nat) : PyData → Bool
  | .tuple ds => decide (ds.length = m + 1) && ds.all numB
  | _ => false
def formsB (m : Nat) : PyData → Bool
  | .tuple ds => ds.all (formB m)
  | _ => false
def lenD : PyData → Nat
  | .tuple ds => ds.length
  | _ => 0
def sayB (m : Nat) : PyData → Bool
  | .tuple [p, f] => nameB p && formB m f
  | _ => false
def brB (m : Nat) : PyData → Bool
  | .tuple [s, t, ts, cs] => nameB s && (nameB t && ((formsB m ts && decide (lenD ts ≤ 3)) && (formsB m cs && decide (lenD cs = m))))
  | _ => false
mutual
/-- no text and no row within is too long -/
def okD : PyData → Bool
  | .str z => decide (z.length ≤ 1000)
  | .list ds => decide (ds.length ≤ 1000) && okAll ds
  | .tuple ds => decide (ds.length ≤ 1000) && okAll ds
  | _ => true
def okAll : List PyData → Bool
  | [] => true
  | d :: ds => okD d && okAll ds
end
theorem ok_at : ∀ {ds : List PyData}, okAll ds = true → ∀ {i : Nat} {d : PyData}, ds[i]? = some d → okD d = true
  | [], _, i, d, e => by simp at e
  | a :: ds, h, 0, d, e => by
    simp at e
    subst e
    rw [okAll, Bool.and_eq_true] at h
    exact h.1
  | a :: ds, h, i + 1, d, e => by
    rw [okAll, Bool.and_eq_true] at h
    exact ok_at h.2 (i := i) (by simpa using e)
theorem all_getD (l : List Nat) (p : Nat → Bool) : ((List.range l.length).map fun i => p (l.getD i 0)).all id = l.all p := by
  have e : ((List.range l.length).map fun i => p (l.getD i 0)) = l.map p := by
    apply List.ext_getElem
    · simp
    · intro i h1 h2
      simp only [List.length_map, List.length_range] at h1
      simp [List.getD_eq_getElem?_getD, List.getElem?_eq_getElem h1]
  rw [e, List.all_map]
  rfl
/-- what the walk asks of the module -/
structure Mo (mg : Str → Option Value) : Prop where
  isi : mg "isinstance" = none
  int : mg "int" = none
  bool : mg "bool" = none
  str : mg "str" = none
  tuple : mg "tuple" = none
  len : mg "len" = none
  all : mg "all" = none
  enum : mg "enumerate" = none
  lname : ∃ t, mg "LONGEST_NAME" = some (.int 8 t)
  lets : ∃ t, mg "LETTERS" = some (.str letS t)
  figs : ∃ t, mg "FIGURES" = some (.str figS t)
  mnum : ∃ t, mg "MOST_NUMBER" = some (.int 1000000 t)
  mvar : ∃ t, mg "MOST_VARIABLES" = some (.int 3 t)
  mpla : ∃ t, mg "MOST_PLACES" = some (.int 3 t)
  mbra : ∃ t, mg "MOST_BRANCHES" = some (.int 5 t)
  mtes : ∃ t, mg "MOST_TESTS" = some (.int 3 t)
  msay : ∃ t, mg "MOST_SAYINGS" = some (.int 3 t)
/-- a judge of data: one argument -/
def spJ (K : PySem.W.Frag) (B : PyData → Bool) : Sp := fun vs H Q _ => ∃ (v : V) (d : PyData), vs = [v] ∧ Rp K H v d ∧ okD d = true ∧ ∀ H', Same H H' → Q (.bl (B d)) H'
/-- two arguments, the second how many variables -/
def spJ2 (K : PySem.W.Frag) (B : Nat → PyData → Bool) : Sp := fun vs H Q _ => ∃ (v : V) (d : PyData) (m : Nat), vs = [v, .int m] ∧ Rp K H v d ∧ okD d = true ∧ ∀ H', Same H H' → Q (.bl (B m d)) H'
section
variable {P : Program} {w : World} {K : PySem.W.Frag} {mg : Str → Option Value} {base : Heap} {f : Addr} {fd : FuncData}
theorem scInt : FnScope ["value"] ["value"] (defScope sInt) := ⟨rfl, rfl, rfl, by decide +kernel, rfl, by decide +kernel, by decide +kernel⟩
theorem ok_int (F : FnP K "is_integer" sInt f fd) (T : Mo mg) : FnOk P w K mg base CX0 1 f fd ["value"] (spJ K intB) := by
  refine F.ok scInt (fun vs H Q E h => ?_) (fun cdv A outer s H vs Q E hr h => ?_)
  · obtain ⟨v, d, rfl, _⟩ := h
    rfl
  · obtain ⟨v, d, rfl, hd, ho, k⟩ := h
    refine ⟨_, PSs.nox <| pss_one (ps_ret (pe_and (pe_callB (call_isD (T := "int")) (by rfl) T.isi boot_isinstance (pa_cons (pv 0) (pa_cons (pe_bltn (v := .ty "int") (by rfl) T.int (by decide +kernel) rfl) pa_nil)))
      (pe_one (pe_not (pe_callB (call_isD (T := "bool")) (by rfl) T.isi boot_isinstance (pa_cons (pv 0) (pa_cons (pe_bltn (v := .ty "bool") (by rfl) T.bool (by decide +kernel) rfl) pa_nil))))))), ?_⟩
    refine ⟨_, rfl, v, d, _, rfl, hd, kit_int d, _, rfl, ?_⟩
    have k0 := k H (Same.refl H)
    cases d with
    | int i => exact ⟨_, rfl, v, _, _, rfl, hd, kit_bool _, _, rfl, k0⟩
    | bool b => exact ⟨_, rfl, v, _, _, rfl, hd, kit_bool _, _, rfl, k0⟩
    | none => exact k0
    | str z => exact k0
    | list ds => exact k0
    | tuple ds => exact k0
    | dict ds => exact k0
theorem scName : FnScope ["value", "sign"] ["value"] (defScope sName) := ⟨rfl, rfl, rfl, by decide +kernel, rfl, by decide +kernel, by decide +kernel⟩
theorem ok_name (F : FnP K "is_name" sName f fd) (T : Mo mg) : FnOk P w K mg base CX0 1 f fd ["value"] (spJ K nameB) := by
  obtain ⟨t1, c1⟩ := T.lname
  obtain ⟨t2, c2⟩ := T.lets
  obtain ⟨t3, c3⟩ := T.figs
  refine F.ok scName (fun vs H Q E h => ?_) (fun cdv A outer s H vs Q E hr h => ?_)
  · obtain ⟨v, d, rfl, _⟩ := h
    rfl
  · obtain ⟨v, d, rfl, hd, ho, k⟩ := h
    refine ⟨_, PSs.nox <| pss_cons (ps_if (PW.pt (pw_or (pt_not (pt_val (pe_callB (call_isD (T := "str")) (by rfl) T.isi boot_isinstance (pa_cons (pv 0) (pa_cons (pe_bltn (v := .ty "str") (by rfl) T.str (by decide +kernel) rfl) pa_nil)))))
        (pw_or1 (pt_not (pt_chain op_le op_le pe_int (pe_callB call_len_str (by rfl) T.len PySem.boot_len (pa_cons (pv 0) pa_nil)) (pe_glob (v := .int 8) (by rfl) c1 ⟨_, rfl⟩)))))) (pss_one (ps_ret pe_bl)) pss_nil)
      <| pss_one (ps_ret (pe_and (pe_cmpR op_in_sign (pe_item_str (pv 0) pe_int (fun _ _ => rfl)) (pe_glob (v := .str letS) (by rfl) c2 ⟨_, rfl⟩) (by rfl))
        (pe_one (pe_callB (cr_all rfl) (by rfl) T.all (by decide +kernel) (pa_cons (pe_lc (own := [("sign", 1)]) (g := gName 1) (tt := tYes) rfl scName.nd (pi_str (pv 0)) (blkOk_by (N := ["value", "sign"]) (sc := defScope sName) (by decide +kernel)) (fun _ _ _ _ _ => pg_name (i := 1) scName.nd rfl (Or.inl rfl)) (fun _ _ _ _ _ => pts_nil)
          (fun _ _ _ _ _ => pe_cmpR op_in_sign (pv 1) (pe_op op_add_str (pe_glob (v := .str letS) (by rfl) c2 ⟨_, rfl⟩) (pe_glob (v := .str figS) (by rfl) c3 ⟨_, rfl⟩)) (by rfl))) pa_nil))))), ?_⟩
    refine ⟨_, rfl, v, d, _, rfl, hd, kit_str d, _, rfl, ?_⟩
    have k0 := k H (Same.refl H)
    cases d with
    | str z =>
      have hv : v = V.str z := by
        rcases hd with hd | ⟨a, kvs, ds, _, _, _, e⟩
        · cases hd
          rfl
        · cases e
      subst hv
      have hz : z.length ≤ 1000 := of_decide_eq_true ho
      have lz : (z.length : Int) = (z.cps.toList.length : Nat) := by
        rw [Array.length_toList]
        rfl
      refine iteF ?_
      refine ⟨_, rfl, z, rfl, sz1000 hz, _, _, rfl, rfl, _, rfl, ?_⟩
      refine ite2 (fun h1 => ?_) (fun h1 => ?_)
      · refine ⟨_, _, rfl, rfl, _, rfl, ?_⟩
        have h1' : 1 ≤ z.length := by
          have := of_decide_eq_true h1
          omega
        obtain ⟨c, r, hl⟩ : ∃ c r, z.cps.toList = c :: r := by
          cases hl : z.cps.toList with
          | nil =>
            rw [hl] at lz
            simp at lz
            omega
          | cons c r => exact ⟨c, r, rfl⟩
        have hlen : z.length = (c :: r).length := by
          rw [hl] at lz
          omega
        have hB : nameB (.str z) = (decide ((c :: r).length ≤ 8) && (decide (c ∈ letS.cps.toList) && (c :: r).all fun c => decide (c ∈ (letS ++ figS).cps.toList))) := by
          show nameS z = _
          unfold nameS
          rw [hl]
        by_cases h2 : z.length ≤ 8
        · rw [show decide ((z.length : Int) ≤ 8) = true from decide_eq_true (by omega)]
          refine iteF ?_
          have hc0 : z.cps[(0 : Int).toNat]? = some c := by
            rw [← Array.getElem?_toList, hl]
            rfl
          refine ⟨_, rfl, z, 0, c, rfl, rfl, by decide, by decide, by omega, hc0, c, letS, rfl, rfl, _, rfl, ?_⟩
          rw [show decide ((c :: r).length ≤ 8) = true from decide_eq_true (by omega), Bool.true_and] at hB
          by_cases h3 : c ∈ letS.cps.toList
          · rw [decide_eq_true h3] at hB ⊢
            rw [Bool.true_and] at hB
            refine ⟨_, rfl, z, rfl, lcR walk_str (n1 := hz) (fun _ _ => trivial) (fun i y _ => y = .bl (decide ((c :: r).getD i 0 ∈ (letS ++ figS).cps.toList))) (fun _ _ _ _ _ e => e) ?_ ?_⟩
            · rintro D acc i x Ha Hb K2 hi s nD hD ⟨rfl, c', ec, rfl⟩ kk
              refine ⟨rfl, _, rfl, _, _, rfl, rfl, by decide +kernel, c', _, rfl, rfl, kk _ _ (Same.refl _) ?_⟩
              have e2 : (c :: r)[i]? = some c' := by
                rw [← hl, Array.getElem?_toList]
                exact ec
              rw [List.getD_eq_getElem?_getD, e2]
              rfl
            · rintro D Hb ys nw hlen2 he
              have ey : ys = ((List.range z.cps.size).map fun i => decide ((c :: r).getD i 0 ∈ (letS ++ figS).cps.toList)).map V.bl := by
                rw [List.map_map]
                exact list_of hlen2 he
              refine ⟨D, _, rfl, by rw [← ey]; exact SqL.of nw.2.1, ?_⟩
              have e3 : (((List.range z.cps.size).map fun i => decide ((c :: r).getD i 0 ∈ (letS ++ figS).cps.toList)).all id) = nameB (.str z) := by
                rw [hB, show z.cps.size = (c :: r).length from hlen]
                exact all_getD (c :: r) fun c => decide (c ∈ (letS ++ figS).cps.toList)
              rw [e3]
              exact k Hb nw.2.2
          · rw [decide_eq_false h3] at hB ⊢
            rw [Bool.false_and] at hB
            rw [hB] at k0
            exact k0
        · rw [show decide ((z.length : Int) ≤ 8) = false from decide_eq_false (by omega)]
          refine iteT ?_
          rw [show decide ((c :: r).length ≤ 8) = false from decide_eq_false (by omega), Bool.false_and] at hB
          rw [hB] at k0
          exact k0
      · refine ⟨_, rfl, ?_⟩
        refine iteT ?_
        have h1' : z.length = 0 := by
          have : ¬ (1 : Int) ≤ z.length := fun q => h1 (decide_eq_true q)
          omega
        have hB : nameB (.str z) = false := by
          show nameS z = _
          unfold nameS
          cases hl : z.cps.toList with
          | nil => rfl
          | cons c r =>
            rw [hl] at lz
            simp at lz
            omega
        rw [hB] at k0
        exact k0
    | int i => exact k0
    | bool b => exact k0
    | none => exact k0
    | list ds => exact k0
    | tuple ds => exact k0
    | dict ds => exact k0
end
end Pg
set_option Elab.async false
set_option linter.all false
set_option maxRecDepth 100000
set_option maxHeartbeats 8000000
namespace Ow
open PySem PySem.Spec PyProof.Rows L2 Gd Rl
/-! len, str, repr of an own object; a class called by a local name -/
/-- the class has the method as a plain def at f -/
structure Dun (K : PySem.W.Frag) (C : Addr) (m : Str) (f : Addr) : Prop where
  at_ : PySem.W.findIn K (.ref C) m = some (some (.ref f))
  fn : PySem.W.isFn K (.ref f) = true
section
variable {X : Cx} {k : Nat} {f C : Addr} {fd : FuncData} {sp : Sp} {self : Str}
/-- the def at f called with one object, some ways down -/
theorem call_dn {pins : List (Addr × Obj)} {σ : L2.St} {H : Hp} {s : Shared} {Q : VK} {A : Around} {a : Addr} {Ex : Value → Shared → Prop} (F : FnOk X.prog X.w X.K X.mg X.base CX0 k f fd [self] sp) (hr : Room k A) (e0 : L2.Env0 X.prog X.w X.K X.mg X.base A X.stack s H) (hb : Binds X.K fd [self] []) (I : Inv X pins σ H s) (h : sp [.ref a] H Q E0) :
    wpAny (model X.prog X.w) A (call (.ref f) [.ref a]) (EP X pins σ Q) Ex s := by
  refine wpAny_call (codeAny_mono (F.run A X.stack s H ⟨[.ref a], []⟩ [.ref a] [.ref a] Q E0 hr e0 (hb s [.ref a] I.kIn rfl) (.cons rfl .nil) h) fun r s' hq => ?_)
  cases r with
  | error er => exact hq.elim
  | ok fl =>
    cases fl with
    | ret u => exact I.after hq
    | next => exact hq.elim
    | brk => exact hq.elim
    | cont => exact hq.elim
def rOwn (C : Addr) (sp : Sp) (P : V → Prop) : List V → Hp → VK → Prop := fun xs H Q => ∃ (a dx : Addr) (fs : List (Str × V)), xs = [.ref a] ∧ H a = some (.ins C dx fs) ∧ sp [.ref a] H (fun v H' => P v ∧ Q v H') E0
theorem call_strO (F : FnOk X.prog X.w X.K X.mg X.base CX0 k f fd [self] sp) (hr : Room (k + 2) X.A) (hb : Binds X.K fd [self] []) (d : Dun X.K C "__str__" f) : CallR X (.type "str") (rOwn C sp fun v => ∃ z, v = .str z) := by
  intro pins s σ H xs us Q I r h
  obtain ⟨a, dx, fs, rfl, ea, hq⟩ := h
  obtain ⟨u, rfl, ru⟩ := vals1 r
  cases ru
  obtain ⟨mA, O, _, _, _, _⟩ := ins_get I.hok ea
  obtain ⟨od, J, _⟩ := O.look
  refine PySem.W.kso_call (hr.in1.in1).units0 I.kIn J d.at_ d.fn (wpAny_mono (call_dn F hr.in1.in1 I.env0.in1.in1 hb I hq) (fun v s' hv => ?_) fun _ _ y => y)
  obtain ⟨v', H', I', rv, ⟨z, rfl⟩, q⟩ := hv
  obtain ⟨t, rfl⟩ := rv
  exact ⟨.str z, H', I', ⟨t, rfl⟩, q⟩
theorem call_lenO (F : FnOk X.prog X.w X.K X.mg X.base CX0 k f fd [self] sp) (hr : Room (k + 1) X.A) (hb : Binds X.K fd [self] []) (d : Dun X.K C "__len__" f) : CallR X (.builtin "len") (rOwn C sp fun v => ∃ n : Int, v = .int n ∧ 0 ≤ n ∧ n < 2 ^ 63) := by
  intro pins s σ H xs us Q I r h
  obtain ⟨a, dx, fs, rfl, ea, hq⟩ := h
  obtain ⟨u, rfl, ru⟩ := vals1 r
  cases ru
  obtain ⟨mA, O, _, _, _, _⟩ := ins_get I.hok ea
  obtain ⟨od, J, _⟩ := O.look
  refine Calls.call_function_entry PySem.kind_len PySem.plain_len PySem.entry_len (PySem.args_len1 _) ?_
  unfold Builtin.«len»
  refine wpAny_bind (m := oneArg "len" _) (wpAny_pure ?_)
  refine wpAny_bind (m := callSpecial? (.ref a) (Str.ofString "__len__")) (PySem.W.special_fn I.kIn J d.at_ (beq_iff_eq.mp d.fn) (wpAny_mono (call_dn F hr.in1 I.env0.in1 hb I hq) (fun v s' hv => ?_) fun _ _ y => y))
  obtain ⟨v', H', I', rv, ⟨n, rfl, n0, n1⟩, q⟩ := hv
  obtain ⟨t, rfl⟩ := rv
  refine wpAny_bind (wpAny_holding (wpAny_pure ?_))
  refine wpAny_bind (wpAny_letGo ?_)
  show wpAny _ _ (if n < 0 then _ else _) _ _ _
  rw [if_neg (by omega)]
  show wpAny _ _ (if n ≥ 2 ^ 63 then _ else _) _ _ _
  rw [if_neg (by omega)]
  exact wpAny_bind (wpAny_mkInt (wpAny_pure ⟨_, rfl, .int n, H', I'.tok _, ⟨_, rfl⟩, q⟩))
theorem call_reprO (F : FnOk X.prog X.w X.K X.mg X.base CX0 k f fd [self] sp) (hr : Room (k + 1) X.A) (hb : Binds X.K fd [self] []) (d : Dun X.K C "__repr__" f) : CallR X (.builtin "repr") (rOwn C sp fun v => ∃ z, v = .str z) := by
  intro pins s σ H xs us Q I r h
  obtain ⟨a, dx, fs, rfl, ea, hq⟩ := h
  obtain ⟨u, rfl, ru⟩ := vals1 r
  cases ru
  obtain ⟨mA, O, _, _, _, _⟩ := ins_get I.hok ea
  obtain ⟨od, J, _⟩ := O.look
  refine Calls.call_function_entry PySem.F.kind_repr PySem.F.plain_repr PySem.F.entry_repr (PySem.F.args_repr1 _) ?_
  unfold Builtin.«repr»
  refine wpAny_bind (m := oneArg "repr" _) (wpAny_pure ?_)
  refine wpAny_bind (wpAny_cRoomFor hr.in1.units0 ?_)
  refine wpAny_bind (wpAny_bind (J.type.here ((PySem.W.looks_findIn I.kIn d.at_).here ?_)))
  show wpAny _ _ (if (some (Value.ref f)).isNone = true then _ else _) _ _ _
  rw [if_neg (by simp)]
  refine wpAny_bind (m := callSpecialIfBound? (.ref a) (Str.ofString "__repr__") _) (PySem.W.ifBound_K I.kIn J d.at_ d.fn (wpAny_mono (call_dn F hr.in1 I.env0.in1 hb I hq) (fun v s' hv => ?_) fun _ _ y => y))
  obtain ⟨v', H', I', rv, ⟨z, rfl⟩, q⟩ := hv
  obtain ⟨t, rfl⟩ := rv
  refine wpAny_bind (wpAny_isInstance (typeIs_str _ _ _) isSubtype_str_str ?_)
  have fin : EP X pins σ Q (.str z t) s' := ⟨.str z, H', I', ⟨t, rfl⟩, q⟩
  first
    | exact wpAny_pure ⟨_, rfl, fin⟩
    | (rw [if_pos rfl]; exact wpAny_pure ⟨_, rfl, fin⟩)
    | (simp only [if_true]; exact wpAny_pure ⟨_, rfl, fin⟩)
/-- x(e, ..), the i-th slot holds the class at C -/
def tMakeL (i : Nat) (C : Addr) (sp : Sp) (dvs : List V) (E : XK) (t : TA) : TE := fun σ H Q => σ[i]? = some (some (.ref C)) ∧ tMake C sp dvs E t σ H Q
theorem pe_makeL {CX : CXT} {i : Nat} {ps : List Str} {dvs : List V} {ds : List Value} {E : XK} {x : Str} {p pos : Pos} {e : Expr} {es : List Expr} {t : TA} (M : Mk X.K C f) (F : FnOk X.prog X.w X.K X.mg X.base CX k f fd ps sp) (hr : Room (k + 1) X.A) (hN : X.N[i]? = some x) (hv : Vis X.env.scope x) (hb : Binds X.K fd ps ds) (hd : Vals dvs ds) (hx : Passes CX X E) (ha : PA X (e :: es) t)
    (hdb : (x == ("__debug__" : Str)) = false := by decide) (hcd : (x == ("__classdict__" : Str)) = false := by decide)
    (he : starEach (e :: es) X.env = (false, eval e X.env) :: starEach es X.env := by rfl) (hpl : (backTo pos (starEach es X.env)).any (·.1) = false := by rfl) : PE X (.Call (.Name x p) (e :: es) [] pos) (tMakeL i C sp dvs E t) := by
  refine ⟨fun pins s σ H Q I h => ?_⟩
  obtain ⟨hs, ht⟩ := h
  refine wpAny_Call_Name_kw (thn ((pe_var (pos := p) hN hv hdb hcd).run pins s σ H (fun v H1 => v = .ref C ∧ H1 = H) I ⟨.ref C, hs, rfl, rfl⟩) fun u s1 ⟨v, H1, I1, r1, q1⟩ => ?_)
  obtain ⟨rfl, rfl⟩ := q1
  cases r1
  refine PySem.W.callWith_K (h₀ := X.base) I.ok.mod.kin M.kp (thn (ha.run pos pins s1 σ _ _ I1 ht) fun us s2 ⟨vs, H2, I2, r, q⟩ => ⟨I2.kIn, ?_⟩) he hpl
  exact run_make M F hr hb hd hx I2 r q
end
end Ow
set_option Elab.async false
set_option linter.all false
set_option maxRecDepth 100000
set_option maxHeartbeats 8000000
namespace Ow
open PySem PySem.Spec PyProof.Rows L2 Gd Rl
/-! bool of an own object by its own len -/
section
variable {X : Cx} {k : Nat} {f C : Addr} {fd : FuncData} {sp : Sp} {self : Str}
/-- no class of it has __bool__ -/
def NoBool (K : PySem.W.Frag) (C : Addr) : Prop := PySem.W.findIn K (.ref C) "__bool__" = some none
theorem truth_own {pins : List (Addr × Obj)} {σ : L2.St} {H : Hp} {s : Shared} {Q : VK} {A : Around} {a dx : Addr} {fs : List (Str × V)} {Ex : Value → Shared → Prop} (F : FnOk X.prog X.w X.K X.mg X.base CX0 k f fd [self] sp) (hr : Room (k + 1) A) (e0 : L2.Env0 X.prog X.w X.K X.mg X.base A X.stack s H) (hb : Binds X.K fd [self] []) (d : Dun X.K C "__len__" f) (nb : NoBool X.K C)
    (I : Inv X pins σ H s) (ea : H a = some (.ins C dx fs)) (h : sp [.ref a] H (fun v H' => (∃ n : Int, v = .int n ∧ 0 < n ∧ n < 2 ^ 63) ∧ Q (.bl true) H') E0) :
    wpAny (model X.prog X.w) A (truthy (.ref a)) (fun b s' => b = true ∧ EP X pins σ Q (.bool true) s') Ex s := by
  obtain ⟨mA, O, _, _, _, _⟩ := ins_get I.hok ea
  obtain ⟨od, J, _⟩ := O.look
  unfold truthy
  refine wpAny_bind (m := callSpecial? (.ref a) (Str.ofString "__bool__")) (wpAny_bind (wpAny_bind (J.type.here ((PySem.W.looks_findIn I.kIn nb).here (wpAny_pure ?_)))))
  refine wpAny_bind (wpAny_bind (J.type.here ((PySem.W.looks_findIn I.kIn d.at_).here ?_)))
  show wpAny _ _ (if (some (Value.ref f)).isNone = true then _ else _) _ _ _
  rw [if_neg (by simp)]
  refine wpAny_bind (wpAny_mono (Q := fun r s' => ∃ n t, r = .int n t ∧ 0 < n ∧ EP X pins σ Q (.bool true) s') (wpAny_runValue (codeAny_builtin PySem.entry_len ?_)) (fun r s' h' => ?_) fun _ _ e => e)
  · rw [Around.under_plainId PySem.plain_len _]
    unfold Builtin.«len»
    refine wpAny_bind (m := oneArg "len" _) (wpAny_pure ?_)
    refine wpAny_bind (m := callSpecial? (.ref a) (Str.ofString "__len__")) (PySem.W.special_fn I.kIn J d.at_ (beq_iff_eq.mp d.fn) (wpAny_mono (call_dn F hr.in1 e0.in1 hb I h) (fun v s' hv => ?_) fun _ _ y => y))
    obtain ⟨v', H', I', rv, ⟨n, rfl, n0, n1⟩, q⟩ := hv
    obtain ⟨t, rfl⟩ := rv
    refine wpAny_bind (wpAny_holding (wpAny_pure ?_))
    refine wpAny_bind (wpAny_letGo ?_)
    show wpAny _ _ (if n < 0 then _ else _) _ _ _
    rw [if_neg (by omega)]
    show wpAny _ _ (if n ≥ 2 ^ 63 then _ else _) _ _ _
    rw [if_neg (by omega)]
    exact wpAny_bind (wpAny_mkInt (wpAny_pure ⟨_, _, rfl, n0, .bl true, H', I'.tok _, rfl, q⟩))
  · obtain ⟨n, t, rfl, n0, e⟩ := h'
    refine wpAny_pure ⟨?_, e⟩
    simp
    omega
def rOwnB (C : Addr) (sp : Sp) : List V → Hp → VK → Prop := fun xs H Q => ∃ (a dx : Addr) (fs : List (Str × V)), xs = [.ref a] ∧ H a = some (.ins C dx fs) ∧ sp [.ref a] H (fun v H' => (∃ n : Int, v = .int n ∧ 0 < n ∧ n < 2 ^ 63) ∧ Q (.bl true) H') E0
theorem call_boolO (F : FnOk X.prog X.w X.K X.mg X.base CX0 k f fd [self] sp) (hr : Room (k + 3) X.A) (hb : Binds X.K fd [self] []) (d : Dun X.K C "__len__" f) (nb : NoBool X.K C) : CallR X (.type "bool") (rOwnB C sp) := by
  intro pins s σ H xs us Q I r h
  obtain ⟨a, dx, fs, rfl, ea, hq⟩ := h
  obtain ⟨u, rfl, ru⟩ := vals1 r
  cases ru
  refine callType_codes (T := "bool") (Bi := Builtin.«object.__init__») (Q₁ := fun r s₁ => r = .bool true ∧ EP X pins σ Q (.bool true) s₁) PySem.F.called_bool (PySem.F.typeCall_bool_1 _) PySem.F.entry_object_init ?_ ?_
  · refine codeAny_of_tree ?_
    show wpAny _ X.A.in1.in1 (do checkBuiltinCall "bool.__new__" ⟨[.type "bool", .ref a], []⟩; again (.builtin "bool.__new__" ⟨[.type "bool", .ref a], []⟩)) _ _ s
    refine wpAny_bind (wpAny_of_eq (PySem.F.newCall_bool_1 _) (wpAny_pure ⟨plainId_quiet (by decide +kernel) _, codeAny_builtin PySem.F.entry_bool_new ?_⟩))
    rw [Around.under_plainId (by decide +kernel) _]
    have f1 := PySem.F.conv_sub_bool
    have ht := fun (Ex : Value → Shared → Prop) => truth_own (Ex := Ex) F hr.in1.in1 I.env0.in1.in1 hb d nb I ea hq
    unfold Builtin.«bool.__new__»
    refine wpAny_bind (wpAny_of_eq (a := true) (by first | rfl | (unfold isType; rfl)) ?_)
    simp only [Bool.not_true, Bool.false_eq_true, if_false]
    refine wpAny_bind (wpAny_of_eq f1 ?_)
    simp only [Bool.not_true, Bool.false_eq_true, if_false]
    refine wpAny_bind (m := someArgs _ _ _ _) (wpAny_pure ?_)
    refine wpAny_bind (wpAny_mono (ht _) (fun b s1 hb1 => ?_) fun _ _ e => e)
    obtain ⟨rfl, e⟩ := hb1
    exact wpAny_pure ⟨rfl, e⟩
  · rintro obj s₁ ⟨rfl, hq1⟩
    refine ⟨PySem.typeIs_bool _ _, PySem.F.args_object_init_2 _ _, object_init_meets PySem.F.called_bool.init.lookup PySem.F.called_bool.made (by decide) X.prog X.w X.A.in1 _ s₁ ⟨PySem.typeIs_bool _ _, rfl, hq1⟩⟩
end
end Ow
set_option Elab.async false
set_option linter.all false
set_option maxRecDepth 100000
set_option maxHeartbeats 8000000
namespace Hx
open PySem PySem.Spec PyProof.Rows L2
/-! what of a class with properties and classmethods is looked at, over K -/
def lookF (K : PySem.W.Frag) (a : Addr) : Option FuncData := match K.lookup a with
  | some ⟨_, _, .func q, _⟩ => some q
  | _ => none
def shapeF (q : FuncData) : Str × Str × Arguments × FuncBody × Scope × Addr × List (Str × Addr) × Addr := (q.name, q.qualname, q.params, q.body, q.scope, q.globals, q.closure, q.builtins)
/-- the def at a, as it was written -/
def seenF (K : PySem.W.Frag) (a : Addr) : He.FnW := (lookF K a).map shapeF
def saidF (x q : Str) (st : Stmt) : He.FnW := some (x, q, defArgs st, .stmts (defBody st), defScope st, mainGlobals, [], builtinsNs)
def keptF (K : PySem.W.Frag) (a : Addr) (q : Str) : Bool := match lookF K a with
  | some z => PySem.W.keepIn K (.ref a) && (PySem.W.codeIn K z.code q && (He.dflB K z.defaults [] && He.kwdB K z.kwdefaults []))
  | none => false
theorem lookF_at {K : PySem.W.Frag} {a : Addr} {z : FuncData} (e : lookF K a = some z) : ∃ oc od osl, K.lookup a = some ⟨oc, od, .func z, osl⟩ := by
  unfold lookF at e
  split at e
  · rename_i c d q s h
    cases e
    exact ⟨c, d, s, h⟩
  · cases e
theorem funF {K : PySem.W.Frag} {a : Addr} {x q : Str} {st : Stmt} (e : seenF K a = saidF x q st) (c : keptF K a q = true) : ∃ z, FunD K x q (defArgs st) (defBody st) (defScope st) [] [] a z := by
  unfold keptF at c
  unfold seenF at e
  cases h : lookF K a with
  | none =>
    rw [h] at c
    cases c
  | some z =>
    rw [h] at c e
    obtain ⟨oc, od, osl, lk⟩ := lookF_at h
    have c' : (PySem.W.keepIn K (.ref a) && (PySem.W.codeIn K z.code q && (He.dflB K z.defaults [] && He.kwdB K z.kwdefaults []))) = true := c
    obtain ⟨kp, c1⟩ := Bool.and_eq_true_iff.mp c'
    obtain ⟨cd, c2⟩ := Bool.and_eq_true_iff.mp c1
    obtain ⟨df, kw⟩ := Bool.and_eq_true_iff.mp c2
    have e' : some (shapeF z) = saidF x q st := e
    obtain ⟨m1, m2, m3, m4, m5, m6, m7, m8, m9, m10, m11, m12, m13, m14, m15⟩ := z
    unfold saidF shapeF at e'
    simp only [Option.some.injEq, Prod.mk.injEq] at e'
    obtain ⟨i1, i2, i3, i4, i5, i6, i7, i8⟩ := e'
    subst i1 i2 i3 i4 i5 i6 i7 i8
    exact ⟨_, ⟨oc, od, m8, m9, m10, m11, m12, m13, m14, osl, rfl, lk, cd, He.dflB_ok df, He.kwdB_ok kw⟩, kp⟩
/-- the first of a record's fields, if it is an object -/
def firstR (K : PySem.W.Frag) (p : Addr) (T : String) : Addr := match PySem.W.recIn K p T with
  | some (.ref g :: _) => g
  | _ => 0
def recB (K : PySem.W.Frag) (p : Addr) (T : String) : Bool := match PySem.W.recIn K p T with
  | some (.ref _ :: _) => true
  | _ => false
theorem recB_ok {K : PySem.W.Frag} {p : Addr} {T : String} (h : recB K p T = true) : ∃ rest, PySem.W.recIn K p T = some (.ref (firstR K p T) :: rest) := by
  unfold recB at h
  unfold firstR
  split at h
  · rename_i g r e
    rw [e]
    exact ⟨r, rfl⟩
  · cases h
def propB (K : PySem.W.Frag) (C : Addr) (f : Str) : Bool := He.eqO (PySem.W.findIn K (.ref C) f) (some (some (.ref (He.ma K C f)))) && (He.eqO (PySem.W.specialIn K (.ref (He.ma K C f)) "__get__") (some (some (.builtin "property.__get__"))) &&
  (decide (PySem.W.takesIn K (.ref (He.ma K C f)) = some true) && recB K (He.ma K C f) "property"))
theorem propB_ok {K : PySem.W.Frag} {C : Addr} {f : Str} (h : propB K C f = true) : PropOf K C f (He.ma K C f) (firstR K (He.ma K C f) "property") := by
  unfold propB at h
  obtain ⟨h1, h⟩ := Bool.and_eq_true_iff.mp h
  obtain ⟨h2, h⟩ := Bool.and_eq_true_iff.mp h
  obtain ⟨h3, h4⟩ := Bool.and_eq_true_iff.mp h
  exact ⟨He.eqO_ok h1, He.eqO_ok h2, of_decide_eq_true h3, recB_ok h4⟩
/-- the record of C.m, a classmethod -/
def cmAt (K : PySem.W.Frag) (C : Addr) (m : Str) : Addr := match PySem.W.findCls K (.ref C) (.type "type") m with
  | some (.get _ (.ref p) _ _) => p
  | _ => 0
def cmB (K : PySem.W.Frag) (C : Addr) (m : Str) : Bool := (match PySem.W.findCls K (.ref C) (.type "type") m with
  | some (.get (.builtin n) (.ref _) .none (.ref D)) => n == "classmethod.__get__" && decide (D = C)
  | _ => false) && (recB K (cmAt K C m) "classmethod" && PySem.W.fnIn K (firstR K (cmAt K C m) "classmethod"))
theorem cmB_ok {K : PySem.W.Frag} {C : Addr} {m : Str} (h : cmB K C m = true) : ClX.CMet K C (.type "type") m (cmAt K C m) (firstR K (cmAt K C m) "classmethod") := by
  unfold cmB at h
  obtain ⟨h1, h⟩ := Bool.and_eq_true_iff.mp h
  obtain ⟨h2, h3⟩ := Bool.and_eq_true_iff.mp h
  refine ⟨?_, recB_ok h2, h3⟩
  unfold cmAt
  split at h1
  · rename_i n p D e
    obtain ⟨k1, k2⟩ := Bool.and_eq_true_iff.mp h1
    rw [e, eq_of_beq k1, of_decide_eq_true k2]
  · cases h1
def readB (K : PySem.W.Frag) (C : Addr) : Bool := PySem.W.readsIn K C (.type "type") && He.eqO (PySem.W.specialIn K (.ref C) "__getattribute__") (some (some (.builtin "type.__getattribute__")))
theorem readB_ok {K : PySem.W.Frag} {C : Addr} (h : readB K C = true) : ClX.CRead K C (.type "type") := by
  unfold readB at h
  obtain ⟨h1, h2⟩ := Bool.and_eq_true_iff.mp h
  exact ⟨h1, He.eqO_ok h2⟩
end Hx
set_option Elab.async false
set_option linter.all false
set_option maxRecDepth 100000
set_option maxHeartbeats 8000000
namespace Hz
open PySem PySem.Spec PyProof.Rows L2 Fx
/-! what is looked at of a class of errors over an own base, with its own __init__ -/
def wn (r : Nat) : Str := (["WrongValue", "WrongName", "NotPossible"] : List Str).getD r ""
def bn (r : Nat) : String := (["ValueError", "LookupError", "ArithmeticError"] : List String).getD r ""
def bmOf (r : Nat) : List Value := [.type (bn r), .type "Exception", .type "BaseException", .type "object"]
def newOf (r : Nat) : String := (["ValueError.__new__", "LookupError.__new__", "ArithmeticError.__new__"] : List String).getD r ""
def initOf (r : Nat) : String := (["ValueError.__init__", "LookupError.__init__", "ArithmeticError.__init__"] : List String).getD r ""
/-- the text of a one-parameter __init__ -/
def Txt1 (st : Stmt) (f : Str) : Prop := ∃ (msg : Str) (kM : Nat) (p1 p2 q1 q2 q3 q4 q5 q6 r1 r2 r3 r4 : Pos), defArgs st = iA1 f p1 p2 ∧ defBody st = [iSup msg kM q1 q2 q3 q4 q5 q6, iSet f r1 r2 r3 r4] ∧ defScope st = iS1 f ∧ (q3.endLine == q5.line) = true
def clsB (K : PySem.W.Frag) (C W : Addr) (bm : List Value) (nw : String) : Bool := match K.lookup C with
  | some ⟨.type "type", _, .cls cd, sl⟩ => (match sl.toList with
    | [_, _, _, _, some (.builtin n), _] => decide (cd.mro = .ref C :: .ref W :: bm) && (n == nw && (!cd.hasDel && cd.hasDict))
    | _ => false)
  | _ => false
theorem clsB_ok {K : PySem.W.Frag} {C W : Addr} {bm : List Value} {nw : String} (h : clsB K C W bm nw = true) : ∃ nm q N bs sn sub ab col dd k0 k1 k2 k3 k5, K.lookup C = some (excClassObj nm q C N bs (.ref W :: bm) true sn sub ab col dd k0 k1 k2 k3 k5 nw) := by
  unfold clsB at h
  split at h
  · rename_i dd cd sl ho
    split at h
    · rename_i k0 k1 k2 k3 n k5 hs
      obtain ⟨h1, h⟩ := Bool.and_eq_true_iff.mp h
      obtain ⟨h2, h⟩ := Bool.and_eq_true_iff.mp h
      obtain ⟨h3, h4⟩ := Bool.and_eq_true_iff.mp h
      have e1 := of_decide_eq_true h1
      have e2 := eq_of_beq h2
      obtain ⟨nm, bs, mro, ns, qn, hd, sn, sub, ab, col, del⟩ := cd
      dsimp only at e1 h3 h4
      have e3 : del = false := by simpa using h3
      subst e1 e2 e3 h4
      obtain ⟨l⟩ := sl
      have hs' : l = [k0, k1, k2, k3, some (.builtin n), k5] := hs
      subst hs'
      exact ⟨nm, qn, ns, bs, sn, sub, ab, col, dd, k0, k1, k2, k3, k5, ho⟩
    · cases h
  · cases h
abbrev eC (K : PySem.W.Frag) (x : Str) : Addr := He.ga K x
abbrev eW (K : PySem.W.Frag) (r : Nat) : Addr := He.ga K (wn r)
abbrev eI (K : PySem.W.Frag) (x : Str) : Addr := He.ma K (eC K x) "__init__"
/-- what isinstance asks of a class -/
def isB (K : PySem.W.Frag) (C : Addr) : Bool := (PySem.W.clsIn K C).isSome && (He.eqO (PySem.W.findIn K (.ref C) "__getattribute__") (some (some (.builtin "BaseException.__getattribute__"))) && (He.eqO (PySem.W.findIn K (.ref C) "__getattr__") (some none) && (decide (PySem.W.subIn K (.ref C) (.type "BaseException") = some true) &&
  (He.eqO (PySem.W.findIn K (.ref C) "__class__") (some (some (.builtin "object.__class__"))) && (He.eqO (PySem.W.specialIn K (.builtin "object.__class__") "__get__") (some (some (.builtin "getset_descriptor.__get__"))) && (decide (PySem.W.takesIn K (.builtin "object.__class__") = some true) && decide (PySem.W.mroIn K C (.type "object") = some true)))))))
theorem isB_ok {K : PySem.W.Frag} {C : Addr} (h : isB K C = true) : IsC K C := by
  obtain ⟨h1, h⟩ := Bool.and_eq_true_iff.mp h
  obtain ⟨h2, h⟩ := Bool.and_eq_true_iff.mp h
  obtain ⟨h3, h⟩ := Bool.and_eq_true_iff.mp h
  obtain ⟨h4, h⟩ := Bool.and_eq_true_iff.mp h
  obtain ⟨h5, h⟩ := Bool.and_eq_true_iff.mp h
  obtain ⟨h6, h⟩ := Bool.and_eq_true_iff.mp h
  obtain ⟨h7, h8⟩ := Bool.and_eq_true_iff.mp h
  exact ⟨h1, He.eqO_ok h2, He.eqO_ok h3, of_decide_eq_true h4, He.eqO_ok h5, He.eqO_ok h6, of_decide_eq_true h7, of_decide_eq_true h8⟩
/-- the function of an __init__ -/
def fnB (K : PySem.W.Frag) (C fI : Addr) : Bool := match K.lookup fI with
  | some ⟨_, _, .func fd, _⟩ => (match fd.code, fd.closure with
    | .ref cda, [(_, cc)] => PySem.W.codeIn K (.ref cda) fd.qualname && ((match K.lookup cda with
        | some ⟨_, _, .fields vs, _⟩ => (match (vs[2]? : Option Value) with
          | some (.str file _) => file == ("/claim/cut.py" : Str)
          | _ => false)
        | _ => false) && (match K.lookup cc with
        | some ⟨_, _, .cell (some (.ref c)), _⟩ => decide (c = C)
        | _ => false))
    | _, _ => false)
  | _ => false
abbrev FnI : Type := Option (Str × Arguments × FuncBody × Scope × Addr × List Str × Value × Addr)
def fnI (K : PySem.W.Frag) (fI : Addr) : FnI := match K.lookup fI with
  | some ⟨_, _, .func fd, _⟩ => some (fd.name, fd.params, fd.body, fd.scope, fd.globals, fd.closure.map (·.1), fd.defaults, fd.builtins)
  | _ => none
def fnV (st : Stmt) : FnI := some ("__init__", defArgs st, .stmts (defBody st), defScope st, mainGlobals, ["__class__"], .none, builtinsNs)
theorem fn_ok {K : PySem.W.Frag} {C fI : Addr} {st : Stmt} (e : fnI K fI = fnV st) (b : fnB K C fI = true) : ∃ (oc : Value) (od : Option Addr) (qual : Str) (kV doc pm : Value) (an : Option Addr) (cda cc : Addr) (ct : Value) (osl : Array (Option Value)) (vs : Array Value) (file : Str) (tf : Tok) (ccl cl : Value) (cdd cld : Option Addr) (ccs csl : Array (Option Value)),
    K.lookup fI = some ⟨oc, od, .func (PySem.W.ksFn "__init__" qual (defArgs st) (defBody st) (defScope st) .none kV doc pm an (.ref cda) ct cc), osl⟩ ∧ PySem.W.codeIn K (.ref cda) qual = true ∧ K.lookup cda = some ⟨ccl, cdd, .fields vs, ccs⟩ ∧ vs[2]? = some (.str file tf) ∧ file = "/claim/cut.py" ∧ K.lookup cc = some ⟨cl, cld, .cell (some (.ref C)), csl⟩ := by
  unfold fnI at e
  unfold fnB at b
  split at e
  · rename_i oc od fd osl ho
    rw [ho] at b
    dsimp only at b
    split at b
    · rename_i cda y cc h1 h2
      obtain ⟨b1, b⟩ := Bool.and_eq_true_iff.mp b
      obtain ⟨b2, b3⟩ := Bool.and_eq_true_iff.mp b
      split at b2
      · rename_i ccl cdd vs ccs h3
        split at b2
        · rename_i file tf h4
          split at b3
          · rename_i cl cld c csl h5
            have e5 := of_decide_eq_true b3
            subst e5
            obtain ⟨n1, n2, n3, n4, n5, n6, n7, n8, n9, n10, n11, n12, n13, n14, n15⟩ := fd
            dsimp only at h1 h2 b1
            subst h1 h2
            unfold fnV at e
            simp only [Option.some.injEq, Prod.mk.injEq, List.map_cons, List.map_nil, List.cons.injEq, and_true] at e
            obtain ⟨rfl, rfl, rfl, rfl, rfl, rfl, rfl, rfl⟩ := e
            exact ⟨oc, od, n2, n9, n10, n11, n12, cda, cc, n14, osl, vs, file, tf, ccl, cl, cdd, cld, ccs, csl, ho, b1, h3, h4, eq_of_beq b2, h5⟩
          · cases b3
        · cases b2
      · cases b2
    · cases b
  · cases e
/-- all of a class of errors: its name, its field, its base -/
def kindB (K : PySem.W.Frag) (C : Addr) (r : Nat) : Bool := (List.range 3).all fun j => decide (PySem.W.kitOne K (.ref C) (.ref (eW K j)) = some (r == j)) && decide (PySem.W.kitOne K (.ref C) (.type (bn j)) = some (r == j))
def errB (K : PySem.W.Frag) (x f : Str) (r : Nat) : Bool := clsB K (eC K x) (eW K r) (bmOf r) (newOf r) && (He.eqO (PySem.W.findIn K (.ref (eC K x)) "__setattr__") (some (some (.builtin "object.__setattr__"))) && (He.eqO (PySem.W.findIn K (.ref (eC K x)) "__init__") (some (some (.ref (eI K x)))) &&
  (decide (PySem.W.typeIn K (.ref (eI K x)) = some (.type "function")) && (PySem.W.keepIn K (.ref (eC K x)) && (He.eqO (PySem.W.alongIn K "__init__" (.ref (eW K r) :: bmOf r)) (some (some (.builtin (initOf r)))) &&
  (He.eqO (PySem.W.findIn K (.ref (eC K x)) f) (some none) && (isB K (eC K x) && (PySem.W.hasDictIn K (eC K x) && (kindB K (eC K x) r &&
  (He.eqO (PySem.W.nsIn K mainGlobals x) (some (some (.ref (eC K x)))) && (fnB K (eC K x) (eI K x) && (decide (PySem.W.typeIn K (.ref (eC K x)) = some (.type "type")) && (decide (PySem.W.exmAny K (.ref (eC K x)) [.ref (eW K 0), .ref (eW K 1), .ref (eW K 2)] = some true) && He.eqO (PySem.W.nsIn K cStatics "thirdparty.any") (some none))))))))))))))
/-- the bases are where they are said to be -/
def baseB (K : PySem.W.Frag) : Bool := (List.range 3).all fun r => He.eqO (PySem.W.nsIn K mainGlobals (wn r)) (some (some (.ref (eW K r))))
structure Err (P : Program) (K : PySem.W.Frag) (mg : Str → Option Value) (x f : Str) (r : Nat) : Prop where
  e : Err1 P K mg (newOf r) (initOf r) (bmOf r) (eC K x) (eW K r) (eI K x) f
  i : IsC K (eC K x)
  xf : XfC K (eC K x)
  g : mg x = some (.ref (eC K x))
  ty : PySem.W.typeIn K (.ref (eC K x)) = some (.type "type")
  any : PySem.W.exmAny K (.ref (eC K x)) [.ref (eW K 0), .ref (eW K 1), .ref (eW K 2)] = some true
  own : ∀ j, j < 3 → PySem.W.kitOne K (.ref (eC K x)) (.ref (eW K j)) = some (r == j)
  bas : ∀ j, j < 3 → PySem.W.kitOne K (.ref (eC K x)) (.type (bn j)) = some (r == j)
section
variable {P : Program} {K : PySem.W.Frag} {mg : Str → Option Value} {h : Heap}
theorem err_ok {x f : Str} {r : Nat} {st : Stmt} (hP : (P.main.file == ("/claim/cut.py" : Str)) = true) (hS : (P.main.scope.names.lookup ("super" : Str)).isSome = false) (X : K.In h) (G : h.Ns mainGlobals mg) (su : mg "super" = none) (ff : f = "given" ∨ f = "index")
    (b : errB K x f r = true) (v : fnI K (eI K x) = fnV st) (t : Txt1 st f) : Err P K mg x f r := by
  obtain ⟨z1, z⟩ := Bool.and_eq_true_iff.mp b
  obtain ⟨z2, z⟩ := Bool.and_eq_true_iff.mp z
  obtain ⟨z3, z⟩ := Bool.and_eq_true_iff.mp z
  obtain ⟨z4, z⟩ := Bool.and_eq_true_iff.mp z
  obtain ⟨z5, z⟩ := Bool.and_eq_true_iff.mp z
  obtain ⟨z6, z⟩ := Bool.and_eq_true_iff.mp z
  obtain ⟨z7, z⟩ := Bool.and_eq_true_iff.mp z
  obtain ⟨z8, z⟩ := Bool.and_eq_true_iff.mp z
  obtain ⟨z9, z⟩ := Bool.and_eq_true_iff.mp z
  obtain ⟨z10, z⟩ := Bool.and_eq_true_iff.mp z
  obtain ⟨z11, z⟩ := Bool.and_eq_true_iff.mp z
  obtain ⟨z12, z⟩ := Bool.and_eq_true_iff.mp z
  obtain ⟨z13, z⟩ := Bool.and_eq_true_iff.mp z
  obtain ⟨z14, z15⟩ := Bool.and_eq_true_iff.mp z
  have kit : ∀ j, j < 3 → PySem.W.kitOne K (.ref (eC K x)) (.ref (eW K j)) = some (r == j) ∧ PySem.W.kitOne K (.ref (eC K x)) (.type (bn j)) = some (r == j) := fun j hj => by
    obtain ⟨q1, q2⟩ := Bool.and_eq_true_iff.mp (List.all_eq_true.mp z10 j (List.mem_range.mpr hj))
    exact ⟨of_decide_eq_true q1, of_decide_eq_true q2⟩
  have ic := isB_ok z8
  obtain ⟨oc, od, qual, kV, doc, pm, an, cda, cc, ct, osl, vs, file, tf, ccl, cl, cdd, cld, ccs, csl, e1, e2, e3, e4, rfl, e6⟩ := fn_ok v z12
  obtain ⟨msg, kM, p1, p2, q1, q2, q3, q4, q5, q6, r1, r2, r3, r4, t1, t2, t3, t4⟩ := t
  rw [t1, t2, t3] at e1
  exact ⟨⟨⟨clsB_ok z1, He.eqO_ok z2, He.eqO_ok z3, of_decide_eq_true z4, z5, He.eqO_ok z6, He.eqO_ok z15, su⟩, ⟨oc, od, qual, msg, kM, kV, doc, pm, an, cda, cc, ct, osl, p1, p2, q1, q2, q3, q4, q5, q6, r1, r2, r3, r4, vs, _, tf, ccl, cl, cdd, cld, ccs, csl, e1, e2, e3, e4, hP, e6, hS, t4⟩, He.eqO_ok z7, ff⟩,
    ic, ⟨ic.ga, ic.gg, ic.ex, z9⟩, PySem.W.mg_of X G (He.eqO_ok z11), of_decide_eq_true z13, of_decide_eq_true z14, fun j hj => (kit j hj).1, fun j hj => (kit j hj).2⟩
theorem base_ok (X : K.In h) (G : h.Ns mainGlobals mg) (b : baseB K = true) (r : Nat) (hr : r < 3) : mg (wn r) = some (.ref (eW K r)) := PySem.W.mg_of X G (He.eqO_ok (List.all_eq_true.mp b r (List.mem_range.mpr hr)))
end
end Hz
set_option Elab.async false
set_option linter.all false
set_option maxRecDepth 100000
set_option maxHeartbeats 8000000
namespace Gd
open PySem PySem.Spec PyProof.Rows L2
/-! a law's end with tables of code objects, its promise kept where nothing is being shown -/
section
variable {P : Program} {w : World} {K : PySem.W.Frag} {mg mb : Str → Option Value} {k : Nat} {fa a : Addr} {fd : FuncData} {x : Str} {sp : Sp} {z : Shared} {vs : List Value} {cs : List (Addr × Addr)}
/-- what is known of the tables -/
structure TabH (K : PySem.W.Frag) (mg : Str → Option Value) (cs : List (Addr × Addr)) (h : Heap) : Prop where
  empty : ∀ p ∈ cs, h.get? p.2 = some { cls := .none, data := .fields #[] }
  out : ∀ p ∈ cs, K.lookup p.2 = none
  code : ∀ p ∈ cs, PySem.W.CodeHd h p.1 p.2
  mod : ∃ (bm : Addr) (ob : Obj), mg "__builtins__" = some (.ref bm) ∧ bm ≠ builtinsNs ∧ h.get? bm = some ob ∧ ob.cls = .type "module" ∧ ob.dict = some builtinsNs ∧ ob.data = .plain
theorem law_coreT {H : Hp} (KX : K.In z.heap) (g1 : z.heap.Ns mainGlobals mg) (g2 : z.heap.Ns builtinsNs mb) (g3 : ∀ y : Str, y ≠ "__name__" → mb y = bootBuiltins y) (g4 : z.heap.NoLimit) (g5 : z.gens = #[]) (T : TabH K mg cs z.heap)
    (ha : z.heap.get? a = some { cls := .type "list", data := .seq vs.toArray }) (hr : Room k callerA) (F : ∀ base : Heap, K.In base → base.Ns mainGlobals mg → (∀ p ∈ cs, LamX.TabB base mg p.1 p.2) → FnG P w K mg base k fa fd [x] sp) (hbind : ∀ (s : Shared) (u : Value), BindsTo s fd ⟨[u], []⟩ [(x, u)])
    (hH : ∀ p ∈ cs, H p.2 = some (.tbl #[])) (only : ∀ b, H b = none ∨ b ∈ cs.map (·.2) ∨ ∃ o xs, H b = some (.frz o (.lst xs))) (hsp : sp [.ref a] H (fun v _ => v = .bl true) fun _ _ _ => False) (ok : HOk P w H z.heap) (hA : ∀ b, H b ≠ none → b = a ∨ b ∈ cs.map (·.2)) (hK : H a ≠ none → K.lookup a = none) :
    codeAny (model P w) callerA (.call (.ref fa) ⟨[.ref a], []⟩) (fun r s' => r = .ok (.ret (.bool true)) ∧ OldK z.heap s'.heap ∧ s'.os = z.os ∧ AllBare s'.gens) z := by
  have tab : ∀ {b : Addr}, b ∈ cs.map (·.2) → ∃ p ∈ cs, p.2 = b := fun {b} hb => List.mem_map.mp hb
  have out : ∀ {b : Addr} {o : Obj}, z.heap.get? b = some o → (∀ xs n, o.data ≠ .seq xs n) → o.data ≠ .fields #[] → H b = none := by
    intro b o e h1 h2
    cases q : H b with
    | none => rfl
    | some u =>
      rcases hA b (by rw [q]; exact fun y => nomatch y) with e' | e'
      · subst e'
        rw [ha] at e
        cases e
        exact absurd rfl (h1 _ _)
      · obtain ⟨p, hp, rfl⟩ := tab e'
        rw [T.empty p hp] at e
        cases e
        exact absurd rfl h2
  have dictOut : ∀ {b : Addr} {o : Obj} {es : Array DictEntry} {ep : Nat}, z.heap.get? b = some o → o.data = .dict es ep → H b = none := fun {b o es ep} e d =>
    out e (fun xs n q => by rw [d] at q; cases q) (fun q => by rw [d] at q; cases q)
  have ns : ∀ {b : Addr} {m : Str → Option Value}, z.heap.Ns b m → (hidT z.heap H).Ns b m := by
    intro b m ⟨o, es, ep, e, d, r⟩
    exact ⟨o, es, ep, hidT_get e (dictOut e d), d, r⟩
  have kin : K.In (hidT z.heap H) := by
    intro b o e
    refine hidT_get (KX b o e) ?_
    cases q : H b with
    | none => rfl
    | some u =>
      rcases hA b (by rw [q]; exact fun y => nomatch y) with e' | e'
      · subst e'
        rw [hK (by rw [q]; exact fun y => nomatch y)] at e
        cases e
      · obtain ⟨p, hp, rfl⟩ := tab e'
        rw [T.out p hp] at e
        cases e
  have mod : Mod K mg (hidT z.heap H) := by
    obtain ⟨mc, h1, h2⟩ := g4
    exact ⟨kin, ns g1, ⟨mb, ns g2, g3⟩, ⟨mc, ns h1, h2⟩⟩
  have tb : ∀ p ∈ cs, LamX.TabB (hidT z.heap H) mg p.1 p.2 := by
    intro p hp
    refine ⟨?_, ?_, fun q => ?_⟩
    · obtain ⟨o, us, file, tf, flags, tg, inF, text, tt, e1, r1, r2, r3, r⟩ := T.code p hp
      refine ⟨o, us, file, tf, flags, tg, inF, text, tt, hidT_get e1 (out e1 (fun xs n q => by rw [r2] at q; cases q) fun q => ?_), r1, r2, r3, r⟩
      rw [r2] at q
      cases q
      simp at r3
    · obtain ⟨bm, ob, b1, b2, b3, b4, b5, b6⟩ := T.mod
      refine ⟨bm, ob, b1, b2, fun q => ?_, fun q => ?_, hidT_get b3 (out b3 (fun xs n q => by rw [b6] at q; cases q) fun q => by rw [b6] at q; cases q), b4, b5, b6⟩
      · obtain ⟨o, es, ep, e, d, _⟩ := g1
        rw [q, e] at b3
        cases b3
        rw [d] at b6
        cases b6
      · rw [q, T.empty p hp] at b3
        cases b3
        cases b6
    · obtain ⟨o, es, ep, e, d, _⟩ := g1
      rw [q, T.empty p hp] at e
      cases e
      cases d
  have e0 : Env0 P w K mg (hidT z.heap H) callerA [] z H :=
    ⟨rfl, mod, fun b o e => of_hidT e, Nat.le_of_eq (hidT_size _ _), trivial, fun b hb => (nomatch (show b ∈ ([] : List Addr) from hb)), ok, .of_eq g5⟩
  refine codeAny_mono ((F _ kin (ns g1) tb).run callerA [] z H ⟨[.ref a], []⟩ [.ref a] [.ref a] _ _ rfl hr e0 (hbind z (.ref a)) (.cons rfl .nil) hsp) fun r s' h => ?_
  cases r with
  | error e => exact h.elim
  | ok fl =>
    cases fl with
    | next => exact h.elim
    | brk => exact h.elim
    | cont => exact h.elim
    | ret u =>
      obtain ⟨v, H', os, bare, un, ok', r', q⟩ := h
      obtain rfl : v = V.bl true := q
      have eu : u = Value.bool true := r'
      subst eu
      have keep : ∀ b o, b ∉ cs.map (·.2) → z.heap.get? b = some o → s'.heap.get? b = some o := fun b o nb e => by
        cases q : H b with
        | none => exact un.keep b o e q (fun y => nomatch (show b ∈ ([] : List Addr) from y)) (fun y => nomatch y)
        | some u =>
          rcases only b with y | y | ⟨ob, xs, y⟩
          · rw [q] at y
            cases y
          · exact absurd y nb
          · obtain ⟨e1, _⟩ := ok b _ y
            obtain ⟨e2, _⟩ := ok' b _ (un.frzs b ob _ y)
            rw [e] at e1
            cases e1
            exact e2
      have grown : ∀ p ∈ cs, ∃ more : Array Value, s'.heap.get? p.2 = some { cls := .none, data := .fields more } := fun p hp => by
        obtain ⟨more, y⟩ := un.tbls p.2 #[] (hH p hp)
        exact ⟨_, ok' p.2 _ y⟩
      refine ⟨rfl, ⟨fun b o e => ?_, fun b o e => ?_⟩, os, bare⟩
      · by_cases hb : b ∈ cs.map (·.2)
        · obtain ⟨p, hp, rfl⟩ := tab hb
          obtain ⟨more, hm⟩ := grown p hp
          rw [T.empty p hp] at e
          cases e
          exact .inr (.inl ⟨((T.code p hp).tab (T.empty p hp)).isCodeTable, rfl, #[], more, rfl, by rw [Array.empty_append]; exact hm⟩)
        · exact .inl (keep b o hb e)
      · by_cases hb : b ∈ cs.map (·.2)
        · obtain ⟨p, hp, rfl⟩ := tab hb
          obtain ⟨more, hm⟩ := grown p hp
          exact ⟨_, hm⟩
        · exact ⟨o, keep b o hb e⟩
theorem law_callT {ns : List Int} (KX : K.In z.heap) (g1 : z.heap.Ns mainGlobals mg) (g2 : z.heap.Ns builtinsNs mb) (g3 : ∀ y : Str, y ≠ "__name__" → mb y = bootBuiltins y) (g4 : z.heap.NoLimit) (g5 : z.gens = #[]) (T : TabH K mg cs z.heap)
    (ha : z.heap.get? a = some { cls := .type "list", data := .seq vs.toArray }) (hi : IntsAre vs ns) (hl : ns.length ≤ sizeLine) (hr : Room k callerA) (F : ∀ base : Heap, K.In base → base.Ns mainGlobals mg → (∀ p ∈ cs, LamX.TabB base mg p.1 p.2) → FnG P w K mg base k fa fd [x] sp) (hbind : ∀ (s : Shared) (u : Value), BindsTo s fd ⟨[u], []⟩ [(x, u)])
    (hsp : ∀ H : Hp, (∀ p ∈ cs, H p.2 = some (.tbl #[])) → SqL K H a (ns.map V.int) → sp [.ref a] H (fun v _ => v = .bl true) fun _ _ _ => False) :
    codeAny (model P w) callerA (.call (.ref fa) ⟨[.ref a], []⟩) (fun r s' => r = .ok (.ret (.bool true)) ∧ OldK z.heap s'.heap ∧ s'.os = z.os ∧ AllBare s'.gens) z := by
  have rv := vals_ints hi
  have lv := hi.length
  have aT : ∀ p ∈ cs, p.2 ≠ a := fun p hp q => by
    have e := T.empty p hp
    rw [q, ha] at e
    cases e
  have mem : ∀ p ∈ cs, p.2 ∈ cs.map (·.2) := fun p hp => List.mem_map.mpr ⟨p, hp, rfl⟩
  have laid : ∀ b, b ∈ cs.map (·.2) → z.heap.get? b = some { cls := .none, data := .fields #[] } := fun b hb => by
    obtain ⟨p, hp, rfl⟩ := List.mem_map.mp hb
    exact T.empty p hp
  cases hk : K.lookup a with
  | some o =>
    have e := KX a o hk
    rw [ha] at e
    cases e
    let H : Hp := fun b => if b ∈ cs.map (·.2) then some (.tbl #[]) else none
    have on : ∀ b, b ∈ cs.map (·.2) → H b = some (.tbl #[]) := fun b hb => if_pos hb
    have off : ∀ b, b ∉ cs.map (·.2) → H b = none := fun b hb => if_neg hb
    have sq : SqL K H a (ns.map V.int) := .inr ⟨_, vs.toArray, _, hk, rfl, rfl, rfl, by rw [List.size_toArray, lv]; exact hl, by simpa using rv⟩
    have na : H a = none := off a fun q => by
      obtain ⟨p, hp, e⟩ := List.mem_map.mp q
      exact aT p hp e
    refine law_coreT (H := H) KX g1 g2 g3 g4 g5 T ha hr F hbind (fun p hp => on _ (mem p hp)) (fun b => ?_) (hsp H (fun p hp => on _ (mem p hp)) sq) (fun b u y => ?_) (fun b y => ?_) fun y => absurd na y
    · by_cases hb : b ∈ cs.map (·.2)
      · exact .inr (.inl hb)
      · exact .inl (off b hb)
    · by_cases hb : b ∈ cs.map (·.2)
      · rw [on b hb] at y
        cases y
        exact laid b hb
      · rw [off b hb] at y
        cases y
    · by_cases hb : b ∈ cs.map (·.2)
      · exact .inr hb
      · exact absurd (off b hb) y
  | none =>
    let H : Hp := fun b => if b = a then some (.frz { cls := .type "list", data := .seq vs.toArray } (.lst (ns.map V.int))) else if b ∈ cs.map (·.2) then some (.tbl #[]) else none
    have at_a : H a = some (.frz { cls := .type "list", data := .seq vs.toArray } (.lst (ns.map V.int))) := if_pos rfl
    have on : ∀ p ∈ cs, H p.2 = some (.tbl #[]) := fun p hp => (if_neg (aT p hp)).trans (if_pos (mem p hp))
    have onB : ∀ b, b ∈ cs.map (·.2) → H b = some (.tbl #[]) := fun b hb => by
      obtain ⟨p, hp, rfl⟩ := List.mem_map.mp hb
      exact on p hp
    have off : ∀ b, b ≠ a → b ∉ cs.map (·.2) → H b = none := fun b h1 h2 => (if_neg h1).trans (if_neg h2)
    refine law_coreT (H := H) KX g1 g2 g3 g4 g5 T ha hr F hbind on (fun b => ?_) (hsp H on (.inl (.inr ⟨_, at_a⟩))) (fun b u y => ?_) (fun b y => ?_) fun _ => hk
    · by_cases hb : b = a
      · subst hb
        exact .inr (.inr ⟨_, _, at_a⟩)
      · by_cases hb2 : b ∈ cs.map (·.2)
        · exact .inr (.inl hb2)
        · exact .inl (off b hb hb2)
    · by_cases hb : b = a
      · subst hb
        rw [at_a] at y
        cases y
        refine ⟨ha, ?_, vs, _, rv, ha⟩
        rw [List.length_map]
        exact hl
      · by_cases hb2 : b ∈ cs.map (·.2)
        · rw [onB b hb2] at y
          cases y
          exact laid b hb2
        · rw [off b hb hb2] at y
          cases y
    · by_cases hb : b = a
      · exact .inl hb
      · by_cases hb2 : b ∈ cs.map (·.2)
        · exact .inr hb2
        · exact absurd (off b hb hb2) y
end
/-- the end over a head by facts and tables -/
theorem walk_GT {l : PySem.W.OpenLaw} {n k : Nat} {q : Program} {loose : List Str} {XP : (Str → Option Value) → Heap → Prop} {YP : World → Heap → Prop} {d : DefRec} {x : Str}
    (hn : l.most = some n) (hn2 : n ≤ sizeLine) (hdf : d.params.defaults = []) (hr : Room k callerA)
    (F : ∀ (w : World) (mg : Str → Option Value) (fa : Addr) (h : Heap), YP w h → h.Ns mainGlobals mg → mg d.name = some (.ref fa) →
      ∃ (K : PySem.W.Frag) (fd : FuncData) (sp : Sp) (cs : List (Addr × Addr)), K.In h ∧ ((∀ p ∈ cs, h.get? p.2 = some { cls := .none, data := .fields #[] }) ∧ (∀ p ∈ cs, K.lookup p.2 = none) ∧ ∀ p ∈ cs, PySem.W.CodeHd h p.1 p.2) ∧ (∀ (s : Shared) (u : Value), BindsTo s fd ⟨[u], []⟩ [(x, u)]) ∧
        (∀ (H : Hp) (a : Addr) (ns : List Int), ns.length ≤ n → (∀ y ∈ ns, Builtin.Int.intBits y ≤ 1048576) → (∀ p ∈ cs, H p.2 = some (.tbl #[])) → SqL K H a (ns.map V.int) → sp [.ref a] H (fun v _ => v = .bl true) fun _ _ _ => False) ∧
        ∀ base : Heap, K.In base → base.Ns mainGlobals mg → (∀ p ∈ cs, LamX.TabB base mg p.1 p.2) → FnG l.prog w K mg base k fa fd [x] sp) :
    PySem.W.WalkO q loose XP YP l.row.toRowW d [] (fun f vs => PySem.call f vs) := by
  refine Att.attach_callB hn hdf fun w s₀ z mg mb fa o pm cd doc a vs ns G Y ho hd hcd hmg hobj hints hlen hbits hg => ?_
  obtain ⟨K, fd, sp, cs, KX, ⟨t1, t2, t3⟩, hb, hsp, hF⟩ := F w mg fa _ Y G.T.g hmg
  exact law_callT KX G.T.g G.T.b G.T.builtins G.T.nolimit hg ⟨t1, t2, t3, G.T.bmain⟩ hobj hints (Nat.le_trans hlen hn2) hr hF hb fun H hH hS => hsp H a ns hlen hbits hH hS
end Gd
set_option Elab.async false
set_option linter.all false
set_option maxRecDepth 100000
set_option maxHeartbeats 8000000
namespace Hx
open PySem PySem.Spec PyProof.Rows L2
def kinB (K : PySem.W.Frag) (C : Addr) : Bool := He.eqO (PySem.W.findIn K (.ref C) "__class__") (some (some (.builtin "object.__class__"))) && (He.eqO (PySem.W.specialIn K (.builtin "object.__class__") "__get__") (some (some (.builtin "getset_descriptor.__get__"))) &&
  (decide (PySem.W.takesIn K (.builtin "object.__class__") = some true) && (decide (PySem.W.mroIn K C (.type "object") = some true) && decide (PySem.W.kitOne K (.ref C) (.ref C) = some true))))
end Hx
set_option Elab.async false
set_option linter.all false
set_option maxRecDepth 100000
set_option maxHeartbeats 8000000
namespace Pg
open PySem PySem.Spec PyProof.Rows L2
/-- no data is a program -/
def tyL : List String := ["NoneType", "bool", "int", "str", "list", "tuple", "dict"]
def kinNB (K : PySem.W.Frag) (C : Addr) : Bool := tyL.all fun t => decide (PySem.W.kitOne K (.type t) (.ref C) = some false)
end Pg
namespace Hx
open PySem PySem.Spec PyProof.Rows L2
/-- classes of errors beside one another -/
def crossB (K : PySem.W.Frag) (cs : List Addr) : Bool := (List.range cs.length).all fun i => (List.range cs.length).all fun j => decide (PySem.W.kitOne K (.ref (cs.getD i 0)) (.ref (cs.getD j 0)) = some (i == j))
theorem cross_ok {K : PySem.W.Frag} {cs : List Addr} (h : crossB K cs = true) (i j : Nat) (hi : i < cs.length) (hj : j < cs.length) : PySem.W.kitOne K (.ref (cs.getD i 0)) (.ref (cs.getD j 0)) = some (i == j) :=
  of_decide_eq_true (List.all_eq_true.mp (List.all_eq_true.mp h i (List.mem_range.mpr hi)) j (List.mem_range.mpr hj))
end Hx
set_option Elab.async false
set_option linter.all false
set_option maxRecDepth 100000
set_option maxHeartbeats 8000000
namespace Hz
open PySem PySem.Spec PyProof.Rows L2 Fx
/-! the same of a class of errors that hold nothing -/
def Txt0 (st : Stmt) : Prop := ∃ (msg : Str) (kM : Nat) (p1 q1 q2 q3 q4 q5 q6 : Pos), defArgs st = iA0 p1 ∧ defBody st = [iSup msg kM q1 q2 q3 q4 q5 q6] ∧ defScope st = iS0 ∧ (q3.endLine == q5.line) = true
def err0B (K : PySem.W.Frag) (x : Str) (r : Nat) : Bool := clsB K (eC K x) (eW K r) (bmOf r) (newOf r) && (He.eqO (PySem.W.findIn K (.ref (eC K x)) "__setattr__") (some (some (.builtin "object.__setattr__"))) && (He.eqO (PySem.W.findIn K (.ref (eC K x)) "__init__") (some (some (.ref (eI K x)))) &&
  (decide (PySem.W.typeIn K (.ref (eI K x)) = some (.type "function")) && (PySem.W.keepIn K (.ref (eC K x)) && (He.eqO (PySem.W.alongIn K "__init__" (.ref (eW K r) :: bmOf r)) (some (some (.builtin (initOf r)))) &&
  (isB K (eC K x) && (kindB K (eC K x) r &&
  (He.eqO (PySem.W.nsIn K mainGlobals x) (some (some (.ref (eC K x)))) && (fnB K (eC K x) (eI K x) && (decide (PySem.W.typeIn K (.ref (eC K x)) = some (.type "type")) && (decide (PySem.W.exmAny K (.ref (eC K x)) [.ref (eW K 0), .ref (eW K 1), .ref (eW K 2)] = some true) && He.eqO (PySem.W.nsIn K cStatics "thirdparty.any") (some none))))))))))))
structure Err0 (P : Program) (K : PySem.W.Frag) (mg : Str → Option Value) (x : Str) (r : Nat) : Prop where
  t : ErrT K mg (newOf r) (initOf r) (bmOf r) (eC K x) (eW K r) (eI K x)
  n : Fn0 P K (eC K x) (eI K x)
  i : IsC K (eC K x)
  g : mg x = some (.ref (eC K x))
  ty : PySem.W.typeIn K (.ref (eC K x)) = some (.type "type")
  any : PySem.W.exmAny K (.ref (eC K x)) [.ref (eW K 0), .ref (eW K 1), .ref (eW K 2)] = some true
  own : ∀ j, j < 3 → PySem.W.kitOne K (.ref (eC K x)) (.ref (eW K j)) = some (r == j)
  bas : ∀ j, j < 3 → PySem.W.kitOne K (.ref (eC K x)) (.type (bn j)) = some (r == j)
section
variable {P : Program} {K : PySem.W.Frag} {mg : Str → Option Value} {h : Heap}
theorem err0_ok {x : Str} {r : Nat} {st : Stmt} (hP : (P.main.file == ("/claim/cut.py" : Str)) = true) (hS : (P.main.scope.names.lookup ("super" : Str)).isSome = false) (X : K.In h) (G : h.Ns mainGlobals mg) (su : mg "super" = none)
    (b : err0B K x r = true) (v : fnI K (eI K x) = fnV st) (t : Txt0 st) : Err0 P K mg x r := by
  obtain ⟨z1, z⟩ := Bool.and_eq_true_iff.mp b
  obtain ⟨z2, z⟩ := Bool.and_eq_true_iff.mp z
  obtain ⟨z3, z⟩ := Bool.and_eq_true_iff.mp z
  obtain ⟨z4, z⟩ := Bool.and_eq_true_iff.mp z
  obtain ⟨z5, z⟩ := Bool.and_eq_true_iff.mp z
  obtain ⟨z6, z⟩ := Bool.and_eq_true_iff.mp z
  obtain ⟨z8, z⟩ := Bool.and_eq_true_iff.mp z
  obtain ⟨z10, z⟩ := Bool.and_eq_true_iff.mp z
  obtain ⟨z11, z⟩ := Bool.and_eq_true_iff.mp z
  obtain ⟨z12, z⟩ := Bool.and_eq_true_iff.mp z
  obtain ⟨z13, z⟩ := Bool.and_eq_true_iff.mp z
  obtain ⟨z14, z15⟩ := Bool.and_eq_true_iff.mp z
  have kit : ∀ j, j < 3 → PySem.W.kitOne K (.ref (eC K x)) (.ref (eW K j)) = some (r == j) ∧ PySem.W.kitOne K (.ref (eC K x)) (.type (bn j)) = some (r == j) := fun j hj => by
    obtain ⟨q1, q2⟩ := Bool.and_eq_true_iff.mp (List.all_eq_true.mp z10 j (List.mem_range.mpr hj))
    exact ⟨of_decide_eq_true q1, of_decide_eq_true q2⟩
  obtain ⟨oc, od, qual, kV, doc, pm, an, cda, cc, ct, osl, vs, file, tf, ccl, cl, cdd, cld, ccs, csl, e1, e2, e3, e4, rfl, e6⟩ := fn_ok v z12
  obtain ⟨msg, kM, p1, q1, q2, q3, q4, q5, q6, t1, t2, t3, t4⟩ := t
  rw [t1, t2, t3] at e1
  exact ⟨⟨clsB_ok z1, He.eqO_ok z2, He.eqO_ok z3, of_decide_eq_true z4, z5, He.eqO_ok z6, He.eqO_ok z15, su⟩, ⟨oc, od, qual, msg, kM, kV, doc, pm, an, cda, cc, ct, osl, p1, q1, q2, q3, q4, q5, q6, vs, _, tf, ccl, cl, cdd, cld, ccs, csl, e1, e2, e3, e4, hP, e6, hS, t4⟩,
    isB_ok z8, PySem.W.mg_of X G (He.eqO_ok z11), of_decide_eq_true z13, of_decide_eq_true z14, fun j hj => (kit j hj).1, fun j hj => (kit j hj).2⟩
end
end Hz
set_option Elab.async false
set_option linter.all false
set_option maxRecDepth 100000
set_option maxHeartbeats 0
namespace K5
open PySem PySem.Spec PyProof.Rows L2 Gd Rl
/-! ### the head -/
def dd (x : Str) (st : Stmt) : He.DefD := ⟨(x, none), x, x, defArgs st, defBody st, defScope st, [], []⟩
def dm (x q : Str) (st : Stmt) : He.DefD := ⟨("Program", some x), x, q, defArgs st, defBody st, defScope st, [], []⟩
def dc (c x q : Str) (st : Stmt) : He.DefD := ⟨(c, some x), x, q, defArgs st, defBody st, defScope st, [], []⟩
def fn : List He.DefD := [dd "is_integer" (Pg.top 27), dd "is_name" (Pg.top 29), dd "are_integers" (Pg.top 30), dd "is_form" (Pg.top 31), dd "are_forms" (Pg.top 32), dd "is_numeral" (Pg.top 33), dd "_check_names" (Pg.top 42), dd "_check_sayings" (Pg.top 43), dd "_check_branches" (Pg.top 44), dd "_is_saying" (Pg.top 45), dd "_is_branch" (Pg.top 46), dd "_places_of" (Pg.top 47), dd "_text_of" (Pg.top 48), dd "_words_of" (Pg.top 49), dd "_parts_of" (Pg.top 50), dd "_form_of" (Pg.top 51), dd "_law_begun" (Pg.top 58), dd "_law_cast" (Pg.top 59), dd "_law_any_of" (Pg.top 60), dd "_law_tags" (Pg.top 61), dd "_law_words" (Pg.top 62), dd "_law_arm_lines" (Pg.top 63), dd "_law_lines" (Pg.top 64), dd "_law_sheet" (Pg.top 65), dd "is_index" (Pg.top 28), dd "check_program" (Pg.top 38), dd "check_index" (Pg.top 39), dd "check_place" (Pg.top 40), dd "check_point" (Pg.top 41), dd "weighed" (Pg.top 34), dd "value_at" (Pg.top 35), dd "fits" (Pg.top 53), dd "state_behind" (Pg.top 54), dd "_law_spots" (Pg.top 66), dd "_law_unit" (Pg.top 71), dd "_law_shift" (Pg.top 72), dd "_law_little" (Pg.top 73), dd "_law_ask" (Pg.top 74), dd "_law_turn" (Pg.top 75), dd "_law_arm" (Pg.top 76), dd "_law_small" (Pg.top 77), dd "_law_built" (Pg.top 67), dd "_law_answer" (Pg.top 69), dd "_law_spot" (Pg.top 78), dd "_law_thing" (Pg.top 68), dd "_law_is_whole" (Pg.top 70), dd "_law_due" (Pg.top 80), dd "_law_sort" (Pg.top 79), dd "_law_right" (Pg.top 81), dd "law" (Pg.top 82), dm "__init__" "Program.__init__" (inClass (Pg.top 37) 0), dm "__str__" "Program.__str__" (inClass (Pg.top 37) 11), dc "History" "__init__" "History.__init__" (inClass (Pg.top 16) 0), dc "History" "present" "History.present" (inClass (Pg.top 16) 1), dc "History" "change" "History.change" (inClass (Pg.top 16) 2), dc "History" "back" "History.back" (inClass (Pg.top 16) 4), dc "Lead" "__init__" "Lead.__init__" (inClass (Pg.top 56) 0), dc "Lead" "take" "Lead.take" (inClass (Pg.top 56) 1), dc "Lead" "undo" "Lead.undo" (inClass (Pg.top 56) 2)]
def fa : List He.Fa := [.glo "is_integer", .glo "is_name", .glo "are_integers", .glo "is_form", .glo "are_forms", .glo "is_numeral", .glo "_check_names", .glo "_check_sayings", .glo "_check_branches", .glo "_is_saying", .glo "_is_branch", .glo "_places_of", .glo "_text_of", .glo "_words_of", .glo "_parts_of", .glo "_form_of", .glo "_law_begun", .glo "_law_cast", .glo "_law_any_of", .glo "_law_tags", .glo "_law_words", .glo "_law_arm_lines", .glo "_law_lines", .glo "_law_sheet", .glo "is_index", .glo "check_program", .glo "check_index", .glo "check_place", .glo "check_point", .glo "weighed", .glo "value_at", .glo "fits", .glo "state_behind", .glo "_law_spots", .glo "_law_unit", .glo "_law_shift", .glo "_law_little", .glo "_law_ask", .glo "_law_turn", .glo "_law_arm", .glo "_law_small", .glo "_law_built", .glo "_law_answer", .glo "_law_spot", .glo "_law_thing", .glo "_law_is_whole", .glo "_law_due", .glo "_law_sort", .glo "_law_right", .glo "law", .glo "Program", .free "len", .free "divmod", .free "int", .free "abs", .free "isinstance", .free "bool", .free "str", .free "tuple", .free "all", .free "enumerate", .free "range", .free "repr", .free "max", .free "min", .free "super", .free "ValueError", .free "LookupError", .free "ArithmeticError", .free "sum", .free "zip", .free "list", .int "LONGEST_NAME" 8, .int "MOST_NUMBER" 1000000, .int "MOST_VARIABLES" 3, .int "MOST_PLACES" 3, .int "MOST_BRANCHES" 5, .int "MOST_TESTS" 3, .int "MOST_SAYINGS" 3, .str "LETTERS" Pg.letS, .str "FIGURES" Pg.figS, .cls "Program", .noat "Program" "_names", .noat "Program" "_sayings", .noat "Program" "_branches", .noat "Program" "_places", .noat "Program" "_text", .meth "Program" "__str__", .mkr "Program", .glo "History", .cls "History", .noat "History" "states", .meth "History" "present", .meth "History" "change", .meth "History" "back", .mkr "History", .glo "Lead", .cls "Lead", .noat "Lead" "_program", .noat "Lead" "_history", .meth "Lead" "take", .meth "Lead" "undo", .mkr "Lead"]
/-- getters, and read: where, name, qualified name, text -/
def cP (K : PySem.W.Frag) : Addr := He.ga K "Program"
def gAt (f : Str) (K : PySem.W.Frag) : Addr := Hx.firstR K (He.ma K (cP K) f) "property"
def rAt (K : PySem.W.Frag) : Addr := Hx.firstR K (Hx.cmAt K (cP K) "read") "classmethod"
def gAtC (c f : Str) (K : PySem.W.Frag) : Addr := Hx.firstR K (He.ma K (He.ga K c) f) "property"
def pl : List (Str × Str) := [("Lead", "place"), ("Lead", "point"), ("Lead", "taken"), ("Lead", "ready"), ("Lead", "again")]
def gl : List ((PySem.W.Frag → Addr) × Str × Str × Stmt) := [(gAt "names", "names", "Program.names", (inClass (Pg.top 37) 2)), (gAt "branches", "branches", "Program.branches", (inClass (Pg.top 37) 4)), (gAt "places", "places", "Program.places", (inClass (Pg.top 37) 5)), (rAt, "read", "Program.read", (inClass (Pg.top 37) 1)), (gAtC "Lead" "place", "place", "Lead.place", (inClass (Pg.top 56) 6)), (gAtC "Lead" "point", "point", "Lead.point", (inClass (Pg.top 56) 7)), (gAtC "Lead" "taken", "taken", "Lead.taken", (inClass (Pg.top 56) 8)), (gAtC "Lead" "ready", "ready", "Lead.ready", (inClass (Pg.top 56) 9)), (gAtC "Lead" "again", "again", "Lead.again", (inClass (Pg.top 56) 10))]
abbrev eSz0 : Stmt := inClass (Pg.top 14) 0
theorem eTz0 : Hz.Txt0 eSz0 := ⟨_, _, _, _, _, _, _, _, _, rfl, rfl, rfl, rfl⟩
abbrev eSt0 : Stmt := inClass (Pg.top 4) 0
theorem eTx0 : Hz.Txt1 eSt0 "given" := ⟨_, _, _, _, _, _, _, _, _, _, _, _, _, _, rfl, rfl, rfl, rfl⟩
abbrev eSt1 : Stmt := inClass (Pg.top 5) 0
theorem eTx1 : Hz.Txt1 eSt1 "given" := ⟨_, _, _, _, _, _, _, _, _, _, _, _, _, _, rfl, rfl, rfl, rfl⟩
abbrev eSt2 : Stmt := inClass (Pg.top 6) 0
theorem eTx2 : Hz.Txt1 eSt2 "given" := ⟨_, _, _, _, _, _, _, _, _, _, _, _, _, _, rfl, rfl, rfl, rfl⟩
abbrev eSt3 : Stmt := inClass (Pg.top 7) 0
theorem eTx3 : Hz.Txt1 eSt3 "given" := ⟨_, _, _, _, _, _, _, _, _, _, _, _, _, _, rfl, rfl, rfl, rfl⟩
abbrev eSt4 : Stmt := inClass (Pg.top 13) 0
theorem eTx4 : Hz.Txt1 eSt4 "index" := ⟨_, _, _, _, _, _, _, _, _, _, _, _, _, _, rfl, rfl, rfl, rfl⟩

def el : List (Str × Str × Nat × Stmt) := [("InvalidIndex", "given", 0, eSt0), ("InvalidPlace", "given", 0, eSt1), ("InvalidPoint", "given", 0, eSt2), ("NotProgram", "given", 0, eSt3), ("Stuck", "index", 2, eSt4)]
def el0 : List (Str × Nat × Stmt) := [("NothingToUndo", 2, eSz0)]
def tf : List He.Defn := [("_law_right", none)]
def exB (K : PySem.W.Frag) : Bool := ((Hz.baseB K && el.all fun e => Hz.errB K e.1 e.2.1 e.2.2.1) && ((pl.all fun p => Hx.propB K (He.ga K p.1) p.2) && el0.all fun e => Hz.err0B K e.1 e.2.1)) && ( (["names", "branches", "places"] : List Str).all (fun f => Hx.propB K (cP K) f) && (Hx.cmB K (cP K) "read" && (Hx.readB K (cP K) && ((gl.all fun g => Hx.keptF K (g.1 K) g.2.2.1) && (Hx.kinB K (cP K) && (Pg.kinNB K (cP K) && Hx.crossB K [Hz.eC K "InvalidIndex", Hz.eC K "InvalidPlace", Hz.eC K "InvalidPoint", Hz.eC K "NotProgram", Hz.eC K "Stuck", Hz.eC K "NothingToUndo"]))))))
/-- what is come to in n rounds, each address once: what was seen is one number, a sign of it an address -/
def addF (p : Nat × List Addr) (r : Addr) : Nat × List Addr := match Nat.testBit p.1 r with
  | true => p
  | false => (p.1 ||| (1 <<< r), r :: p.2)
def layF (g : Addr → Option Obj) (seen : Nat) (front : List Addr) : Nat × List Addr := front.foldl (fun p a => match g a with
  | some o => (He.refsD o).foldl addF p
  | none => p) (seen, [])
def asF (g : Addr → Option Obj) : Nat → List Addr → Nat → List Addr → List Addr
  | 0, all, _, _ => all
  | n + 1, all, seen, front => match layF g seen front with
    | (s, f) => asF g n (f ++ all) s f
def asK (g : Addr → Option Obj) (n : Nat) : List Addr := cStatics :: asF g n [mainGlobals] (1 <<< mainGlobals) [mainGlobals]
abbrev AlK : Type := (Bool × List He.FnW) × (Bool × (List He.FnW × List Hz.FnI))
def obsK (K : PySem.W.Frag) : AlK := (He.obsD fa fn K, (exB K, (gl.map fun g => Hx.seenF K (g.1 K), (el.map fun e => Hz.fnI K (Hz.eI K e.1)) ++ el0.map fun e => Hz.fnI K (Hz.eI K e.1))))
def valK : AlK := (He.valD fn, (true, (gl.map fun g => Hx.saidF g.2.1 g.2.2.1 g.2.2.2, (el.map fun e => Hz.fnV e.2.2.2) ++ el0.map fun e => Hz.fnV e.2.2)))
def SaysK (K : PySem.W.Frag) : Prop := obsK K = valK
def TabsK (h : Heap) (K : PySem.W.Frag) : Prop := ∀ p ∈ tf, PySem.W.codeHdIn K (He.cT K p).1 (He.cT K p).2 = true ∧ K.lookup (He.cT K p).2 = none ∧ h.get? (He.cT K p).2 = some { cls := .none, data := .fields #[] }
def obsKG (g : Addr → Option Obj) : AlK := (He.obsD fa fn (He.frT g (asK g 5)), (exB (He.frT g (asK g 5)) && He.tabsB g tf (He.frT g (asK g 5)), (gl.map fun q => Hx.seenF (He.frT g (asK g 5)) (q.1 (He.frT g (asK g 5))), (el.map fun e => Hz.fnI (He.frT g (asK g 5)) (Hz.eI (He.frT g (asK g 5)) e.1)) ++ el0.map fun e => Hz.fnI (He.frT g (asK g 5)) (Hz.eI (He.frT g (asK g 5)) e.1))))
theorem says_of {h : Heap} (e : obsKG h.get? = valK) : SaysK (He.frT h.get? (asK h.get? 5)) ∧ TabsK h (He.frT h.get? (asK h.get? 5)) := by
  have e1 := congrArg (fun z : AlK => z.1) e
  have e2 : (exB (He.frT h.get? (asK h.get? 5)) && He.tabsB h.get? tf (He.frT h.get? (asK h.get? 5))) = true := congrArg (fun z : AlK => z.2.1) e
  have e3 := congrArg (fun z : AlK => z.2.2) e
  obtain ⟨h1, h2⟩ := Bool.and_eq_true_iff.mp e2
  refine ⟨Prod.ext e1 (Prod.ext h1 e3), fun p hp => ?_⟩
  obtain ⟨h3, h4⟩ := Bool.and_eq_true_iff.mp (List.all_eq_true.mp h2 p hp)
  cases q : h.get? (He.cT (He.frT h.get? (asK h.get? 5)) p).2 with
  | none =>
    rw [q] at h4
    cases h4
  | some o =>
    rw [q] at h4
    exact ⟨h3, He.frT_none q h4, by rw [He.emptyTab_eq h4]⟩
def hk : PySem.W.Hook where
  α := AlK
  obs := fun s => obsKG s.heap.get?
  val := fun _ => valK
  says := fun _ h => ∃ K : PySem.W.Frag, K.In h ∧ SaysK K ∧ TabsK h K
  of := fun _ _ e => ⟨_, He.frT_in, says_of e⟩
  keeps := fun _ _ _ ⟨K, i, c, t⟩ k => ⟨K, PySem.W.Frag.In.keeps i k, c, fun p hp => ⟨(t p hp).1, (t p hp).2.1, k _ _ (t p hp).2.2⟩⟩
abbrev R : PySem.W.OpenRow := PySem.W.OpenLaw.row PySem.Challenge.rw_fallranks_k56_errors_of_leads
def ob (s : PySem.W.SharedT) : AlK := obsKG (HandSHeadRun.getT s)
theorem ob_eq (s : PySem.W.SharedT) : ob s = hk.obs s.abs := by
  have e : HandSHeadRun.getT s = s.abs.heap.get? := funext (HandSHeadRun.getT_eq s)
  unfold ob
  rw [e]
  rfl
def names0 : List Str := ["_wall", "WrongValue", "InvalidText", "InvalidIndex", "InvalidPlace", "InvalidPoint", "NotProgram", "InvalidNames", "InvalidSayings", "InvalidBranches", "WrongName", "NotPossible", "Stuck", "NothingToUndo", "History", "MOST_VARIABLES", "MOST_PLACES", "MOST_BRANCHES", "MOST_TESTS", "MOST_SAYINGS", "MOST_NUMBER", "LONGEST_NAME", "LETTERS", "FIGURES", "is_integer", "is_index", "is_name", "are_integers", "is_form", "are_forms"]
def names1 : List Str := ["is_numeral", "weighed", "value_at", "Program", "check_program", "check_index", "check_place", "check_point", "_check_names", "_check_sayings", "_check_branches", "_is_saying", "_is_branch", "_places_of", "_text_of", "_words_of", "_parts_of", "_form_of", "fits", "state_behind", "Lead", "_law_begun", "_law_cast", "_law_any_of", "_law_tags", "_law_words", "_law_arm_lines", "_law_lines", "_law_sheet", "_law_spots"]
def names2 : List Str := ["_law_built", "_law_thing", "_law_answer", "_law_is_whole", "_law_unit", "_law_shift", "_law_little", "_law_ask", "_law_turn", "_law_arm", "_law_small", "_law_spot", "_law_sort", "_law_due", "_law_right"]
def names : List Str := names0 ++ names1 ++ names2
theorem run (w : World) : HandSHeadRun.RunEq R (PySem.W.view R.prog [82]) hk ob 12000 names w := by
  intro os
  kernel_rfl
end K5
set_option Elab.async false
set_option linter.all false
set_option maxRecDepth 100000
set_option maxHeartbeats 8000000
namespace Pg
open PySem PySem.Spec PyProof.Rows L2 Gd Rl
abbrev sSay : Stmt := top 45
abbrev sBr : Stmt := top 46
theorem rp_tup {K : PySem.W.Frag} {H : Hp} {v : V} {ds : List PyData} (h : Rp K H v (.tuple ds)) : ∃ a xs, v = .ref a ∧ SqT K H a xs ∧ DpAll K H xs ds := by
  rcases h with h | ⟨a, kvs, es, _, _, _, e⟩
  · cases h with
    | tup h1 h2 => exact ⟨_, _, rfl, h1, h2⟩
  · cases e
theorem ok_tup {ds : List PyData} (h : okD (.tuple ds) = true) : ds.length ≤ 1000 ∧ okAll ds = true := by
  rw [okD, Bool.and_eq_true] at h
  exact ⟨of_decide_eq_true h.1, h.2⟩
theorem all_getP (l : List PyData) (p : PyData → Bool) : ((List.range l.length).map fun i => p (l.getD i .none)).all id = l.all p := by
  have e : ((List.range l.length).map fun i => p (l.getD i .none)) = l.map p := by
    apply List.ext_getElem
    · simp
    · intro i h1 h2
      simp only [List.length_map, List.length_range] at h1
      simp [List.getD_eq_getElem?_getD, List.getElem?_eq_getElem h1]
  rw [e, List.all_map]
  rfl
theorem iteNE {c A B : Prop} [Decidable c] (hc : ¬ c) (h : A) : if (!decide c) = true then A else B := by
  rw [decide_eq_false hc]
  exact iteT h
section
variable {P : Program} {w : World} {K : PySem.W.Frag} {mg : Str → Option Value} {base : Heap} {f : Addr} {fd : FuncData}
theorem scInts : FnScope ["value", "many", "number"] ["value", "many"] (defScope sInts) := ⟨rfl, rfl, rfl, by decide +kernel, rfl, by decide +kernel, by decide +kernel⟩
theorem ok_areints {fI : Addr} {dI : FuncData} (F : FnP K "are_integers" sInts f fd) (T : Mo mg) (FI : FnP K "is_integer" sInt fI dI) (gI : mg "is_integer" = some (.ref fI)) : FnOk P w K mg base CX0 2 f fd ["value", "many"] (spJ2 K intsB) := by
  have GI : FnOk P w K mg base CX0 1 fI dI ["value"] (spJ K intB) := ok_int FI T
  have bI : Binds K dI ["value"] [] := FI.bindsN fun _ _ _ _ _ _ us hl => match us, hl with | [_], _ => rfl
  refine F.ok scInts (fun vs H Q E h => ?_) (fun cdv A outer s H vs Q E hr h => ?_)
  · obtain ⟨v, d, m, rfl, _⟩ := h
    rfl
  · obtain ⟨v, d, m, rfl, hd, ho, k⟩ := h
    refine ⟨_, PSs.nox <| pss_one (ps_ret (pe_and (pe_callB (call_isD (T := "tuple")) (by rfl) T.isi boot_isinstance (pa_cons (pv 0) (pa_cons (pe_bltn (v := .ty "tuple") (by rfl) T.tuple (by decide +kernel) rfl) pa_nil)))
      (pe_and (pe_cmpR op_eq (pe_callB call_len (by rfl) T.len PySem.boot_len (pa_cons (pv 0) pa_nil)) (pv 1) (nomark _))
      (pe_one (pe_callB (cr_all rfl) (by rfl) T.all (by decide +kernel) (pa_cons (pe_lc (own := [("number", 2)]) (g := gName 2) (tt := tYes) rfl scInts.nd (pi_tup (pv 0)) (blkOk_by (N := ["value", "many", "number"]) (sc := defScope sInts) (by decide +kernel)) (fun _ _ _ _ _ => pg_name (i := 2) scInts.nd rfl (Or.inl rfl)) (fun _ _ _ _ _ => pts_nil)
          (fun _ _ _ _ _ => pe_call GI hr (by rfl) gI FI.kp bI .nil pass0 (pa_cons (pv 2) pa_nil))) pa_nil)))))), ?_⟩
    refine ⟨_, rfl, v, d, _, rfl, hd, kit_tuple d, _, rfl, ?_⟩
    have k0 := k H (Same.refl H)
    cases d with
    | tuple ds =>
      obtain ⟨a, xs, rfl, hs, ha⟩ := rp_tup hd
      obtain ⟨hl, hk⟩ := ok_tup ho
      have lx := dp_len ha
      refine ⟨_, rfl, _, xs.length, rfl, .inr ⟨_, hs, rfl⟩, _, rfl, rfl, _, rfl, ?_⟩
      by_cases h1 : ds.length = m
      · have hB : intsB m (.tuple ds) = ds.all intB := by
          show (decide (ds.length = m) && ds.all intB) = _
          rw [decide_eq_true h1, Bool.true_and]
        rw [show decide (V.int ((xs.length : Nat) : Int) = V.int (m : Int)) = true from decide_eq_true (by rw [lx, h1])]
        refine ⟨_, rfl, a, rfl, ⟨_, hs⟩, lcR (walk_tup (xs := xs)) (n1 := by omega) (fun H' s' => Same.seqT s' hs) (fun i y _ => y = .bl (intB (ds.getD i .none))) (fun _ _ _ _ _ e => e) ?_ ?_⟩
        · rintro D acc i x Ha Hb K2 hi s nD hD ⟨rfl, ex⟩ kk
          obtain ⟨d, ed, hx⟩ := dp_at ha ex
          have eg : ds.getD i .none = d := by
            rw [List.getD_eq_getElem?_getD, ed]
            rfl
          exact ⟨rfl, _, rfl, x, d, rfl, .inl (dp_same s d hx), ok_at hk ed, fun Hc sc => kk _ _ sc (by rw [eg])⟩
        · rintro D Hb ys nw hlen he
          have ey : ys = ((List.range ds.length).map fun i => intB (ds.getD i .none)).map V.bl := by
            rw [List.map_map]
            exact list_of (by rw [hlen, lx]) he
          refine ⟨D, _, rfl, by rw [← ey]; exact SqL.of nw.2.1, ?_⟩
          rw [all_getP, ← hB]
          exact k Hb nw.2.2
      · have hB : intsB m (.tuple ds) = false := by
          show (decide (ds.length = m) && ds.all intB) = _
          rw [decide_eq_false h1, Bool.false_and]
        rw [show decide (V.int ((xs.length : Nat) : Int) = V.int (m : Int)) = false from decide_eq_false fun e => h1 (by
          have := V.int.inj e
          omega)]
        rw [hB] at k0
        exact k0
    | int i => exact k0
    | bool b => exact k0
    | none => exact k0
    | list ds => exact k0
    | str z => exact k0
    | dict ds => exact k0
/-- where are_integers stands -/
def Ints (K : PySem.W.Frag) (mg : Str → Option Value) : Prop := ∃ fM dM, FnP K "are_integers" sInts fM dM ∧ mg "are_integers" = some (.ref fM)
theorem numB_int {d : PyData} (h : numB d = true) : intB d = true := by
  cases d with
  | int i => rfl
  | bool b => cases h
  | none => cases h
  | str z => cases h
  | list es => cases h
  | tuple es => cases h
  | dict es => cases h
theorem form_ints {m : Nat} {d : PyData} (h : intsB (m + 1) d = false) : formB m d = false := by
  cases d with
  | tuple ds =>
    have h2 : (decide (ds.length = m + 1) && ds.all intB) = false := h
    show (decide (ds.length = m + 1) && ds.all numB) = false
    cases e : decide (ds.length = m + 1) with
    | false => rfl
    | true =>
      rw [e, Bool.true_and] at h2
      rw [Bool.true_and]
      cases e3 : ds.all numB with
      | false => rfl
      | true =>
        have : ds.all intB = true := List.all_eq_true.mpr fun x hx => numB_int (List.all_eq_true.mp e3 x hx)
        rw [h2] at this
        cases this
  | int i => rfl
  | bool b => rfl
  | none => rfl
  | str z => rfl
  | list es => rfl
  | dict es => rfl
theorem ints_tup {m : Nat} {d : PyData} (h : intsB m d = true) : ∃ ds, d = .tuple ds ∧ ds.length = m ∧ ∀ x ∈ ds, intB x = true := by
  cases d with
  | tuple ds =>
    have h2 : (decide (ds.length = m) && ds.all intB) = true := h
    obtain ⟨e1, e2⟩ := Bool.and_eq_true_iff.mp h2
    exact ⟨ds, rfl, of_decide_eq_true e1, List.all_eq_true.mp e2⟩
  | int i => cases h
  | bool b => cases h
  | none => cases h
  | str z => cases h
  | list es => cases h
  | dict es => cases h
theorem scForm : FnScope ["value", "many", "number"] ["value", "many"] (defScope sForm) := ⟨rfl, rfl, rfl, by decide +kernel, rfl, by decide +kernel, by decide +kernel⟩
theorem ok_form {fI : Addr} {dI : FuncData} (F : FnP K "is_form" sForm f fd) (T : Mo mg) (FI : FnP K "is_integer" sInt fI dI) (gI : mg "is_integer" = some (.ref fI)) (Z : Ints K mg) : FnOk P w K mg base CX0 3 f fd ["value", "many"] (spJ2 K formB) := by
  obtain ⟨fM, dM, FM, gM⟩ := Z
  have GM : FnOk P w K mg base CX0 2 fM dM ["value", "many"] (spJ2 K intsB) := ok_areints FM T FI gI
  have bM : Binds K dM ["value", "many"] [] := FM.bindsN fun _ _ _ _ _ _ us hl => match us, hl with | [_, _], _ => rfl
  obtain ⟨t1, c1⟩ := T.mnum
  refine F.ok scForm (fun vs H Q E h => ?_) (fun cdv A outer s H vs Q E hr h => ?_)
  · obtain ⟨v, d, m, rfl, _⟩ := h
    rfl
  · obtain ⟨v, d, m, rfl, hd, ho, k⟩ := h
    refine ⟨_, PSs.nox <| pss_one (ps_ret (pe_and (pe_call GM hr (by rfl) gM FM.kp bM .nil pass0 (pa_cons (pv 0) (pa_cons (pe_op op_add (pv 1) pe_int) pa_nil)))
      (pe_one (pe_callB (cr_all rfl) (by rfl) T.all (by decide +kernel) (pa_cons (pe_lc (own := [("number", 2)]) (g := gName 2) (tt := tYes) rfl scForm.nd (pi_tup (pv 0)) (blkOk_by (N := ["value", "many", "number"]) (sc := defScope sForm) (by decide +kernel)) (fun _ _ _ _ _ => pg_name (i := 2) scForm.nd rfl (Or.inl rfl)) (fun _ _ _ _ _ => pts_nil)
          (fun _ _ _ _ _ => pe_chain op_le op_le (pe_un un_neg (pe_glob (v := .int 1000000) (by rfl) c1 ⟨_, rfl⟩)) (pv 2) (pe_glob (v := .int 1000000) (by rfl) c1 ⟨_, rfl⟩))) pa_nil))))), ?_⟩
    refine ⟨_, rfl, _, rfl, _, _, rfl, rfl, v, d, m + 1, rfl, hd, ho, fun H1 s1 => ⟨_, rfl, ?_⟩⟩
    cases hi : intsB (m + 1) d with
    | false =>
      have z := k H1 s1
      rw [form_ints hi] at z
      exact z
    | true =>
      obtain ⟨ds, rfl, hlen, hall⟩ := ints_tup hi
      obtain ⟨a, xs, rfl, hs0, ha⟩ := rp_tup hd
      obtain ⟨hl, hk⟩ := ok_tup ho
      have lx := dp_len ha
      have hs := Same.seqT s1 hs0
      have hB : formB m (.tuple ds) = ds.all numB := by
        show (decide (ds.length = m + 1) && ds.all numB) = _
        rw [decide_eq_true hlen, Bool.true_and]
      refine ⟨_, rfl, a, rfl, ⟨_, hs⟩, lcR (walk_tup (xs := xs)) (n1 := by omega) (fun H' s' => Same.seqT s' hs) (fun i y _ => y = .bl (numB (ds.getD i .none))) (fun _ _ _ _ _ e => e) ?_ ?_⟩
      · rintro D acc i x Ha Hb K2 hi s nD hD ⟨rfl, ex⟩ kk
        obtain ⟨d, ed, hx⟩ := dp_at ha ex
        have eg : ds.getD i .none = d := by
          rw [List.getD_eq_getElem?_getD, ed]
          rfl
        have hd1 := hall d (List.mem_of_getElem? ed)
        cases d with
        | int i =>
          cases hx
          refine ⟨rfl, _, rfl, _, rfl, _, _, rfl, rfl, _, rfl, ?_⟩
          by_cases h2 : (-1000000 : Int) ≤ i
          · rw [show decide (-(1000000 : Int) ≤ i) = true from decide_eq_true h2]
            refine iteT ?_
            refine ⟨_, _, rfl, rfl, kk _ _ (Same.refl _) ?_⟩
            rw [eg]
            show V.bl _ = V.bl (decide (-1000000 ≤ i) && decide (i ≤ 1000000))
            rw [decide_eq_true h2, Bool.true_and]
          · rw [show decide (-(1000000 : Int) ≤ i) = false from decide_eq_false h2]
            refine iteF ?_
            refine kk _ _ (Same.refl _) ?_
            rw [eg]
            show V.bl _ = V.bl (decide (-1000000 ≤ i) && decide (i ≤ 1000000))
            rw [decide_eq_false h2, Bool.false_and]
        | bool b => cases hd1
        | none => cases hd1
        | str z => cases hd1
        | list es => cases hd1
        | tuple es => cases hd1
        | dict es => cases hd1
      · rintro D Hb ys nw hlen2 he
        have ey : ys = ((List.range ds.length).map fun i => numB (ds.getD i .none)).map V.bl := by
          rw [List.map_map]
          exact list_of (by rw [hlen2, lx]) he
        refine ⟨D, _, rfl, by rw [← ey]; exact SqL.of nw.2.1, ?_⟩
        rw [all_getP, ← hB]
        exact k Hb (s1.trans nw.2.2)
theorem scForms : FnScope ["value", "many", "form"] ["value", "many"] (defScope sForms) := ⟨rfl, rfl, rfl, by decide +kernel, rfl, by decide +kernel, by decide +kernel⟩
theorem ok_forms {fI fF : Addr} {dI dF : FuncData} (F : FnP K "are_forms" sForms f fd) (T : Mo mg) (FI : FnP K "is_integer" sInt fI dI) (gI : mg "is_integer" = some (.ref fI)) (FF : FnP K "is_form" sForm fF dF) (gF : mg "is_form" = some (.ref fF)) (Z : Ints K mg) : FnOk P w K mg base CX0 4 f fd ["value", "many"] (spJ2 K formsB) := by
  have GF : FnOk P w K mg base CX0 3 fF dF ["value", "many"] (spJ2 K formB) := ok_form FF T FI gI Z
  have bF : Binds K dF ["value", "many"] [] := FF.bindsN fun _ _ _ _ _ _ us hl => match us, hl with | [_, _], _ => rfl
  refine F.ok scForms (fun vs H Q E h => ?_) (fun cdv A outer s H vs Q E hr h => ?_)
  · obtain ⟨v, d, m, rfl, _⟩ := h
    rfl
  · obtain ⟨v, d, m, rfl, hd, ho, k⟩ := h
    refine ⟨_, PSs.nox <| pss_one (ps_ret (pe_and (pe_callB (call_isD (T := "tuple")) (by rfl) T.isi boot_isinstance (pa_cons (pv 0) (pa_cons (pe_bltn (v := .ty "tuple") (by rfl) T.tuple (by decide +kernel) rfl) pa_nil)))
      (pe_one (pe_callB (cr_all rfl) (by rfl) T.all (by decide +kernel) (pa_cons (pe_lc (own := [("form", 2)]) (g := gName 2) (tt := tYes) rfl scForms.nd (pi_tup (pv 0)) (blkOk_by (N := ["value", "many", "form"]) (sc := defScope sForms) (by decide +kernel)) (fun _ _ _ _ _ => pg_name (i := 2) scForms.nd rfl (Or.inl rfl)) (fun _ _ _ _ _ => pts_nil)
          (fun _ _ _ _ _ => pe_call GF hr (by rfl) gF FF.kp bF .nil pass0 (pa_cons (pv 2) (pa_cons (pv 1) pa_nil)))) pa_nil))))), ?_⟩
    refine ⟨_, rfl, v, d, _, rfl, hd, kit_tuple d, _, rfl, ?_⟩
    have k0 := k H (Same.refl H)
    cases d with
    | tuple ds =>
      obtain ⟨a, xs, rfl, hs, ha⟩ := rp_tup hd
      obtain ⟨hl, hk⟩ := ok_tup ho
      have lx := dp_len ha
      refine ⟨_, rfl, a, rfl, ⟨_, hs⟩, lcR (walk_tup (xs := xs)) (n1 := by omega) (fun H' s' => Same.seqT s' hs) (fun i y _ => y = .bl (formB m (ds.getD i .none))) (fun _ _ _ _ _ e => e) ?_ ?_⟩
      · rintro D acc i x Ha Hb K2 hi s nD hD ⟨rfl, ex⟩ kk
        obtain ⟨d, ed, hx⟩ := dp_at ha ex
        have eg : ds.getD i .none = d := by
          rw [List.getD_eq_getElem?_getD, ed]
          rfl
        exact ⟨rfl, _, rfl, _, rfl, x, d, m, rfl, .inl (dp_same s d hx), ok_at hk ed, fun Hc sc => kk _ _ sc (by rw [eg])⟩
      · rintro D Hb ys nw hlen he
        have ey : ys = ((List.range ds.length).map fun i => formB m (ds.getD i .none)).map V.bl := by
          rw [List.map_map]
          exact list_of (by rw [hlen, lx]) he
        refine ⟨D, _, rfl, by rw [← ey]; exact SqL.of nw.2.1, ?_⟩
        rw [all_getP]
        exact k Hb nw.2.2
    | int i => exact k0
    | bool b => exact k0
    | none => exact k0
    | list ds => exact k0
    | str z => exact k0
    | dict ds => exact k0
/-! ### where the judges stand -/
structure Js (K : PySem.W.Frag) (mg : Str → Option Value) (fI fN fF fS : Addr) (dI dN dF dS : FuncData) : Prop where
  i : FnP K "is_integer" sInt fI dI
  n : FnP K "is_name" sName fN dN
  f : FnP K "is_form" sForm fF dF
  s : FnP K "are_forms" sForms fS dS
  gi : mg "is_integer" = some (.ref fI)
  gn : mg "is_name" = some (.ref fN)
  gf : mg "is_form" = some (.ref fF)
  gs : mg "are_forms" = some (.ref fS)
  z : Ints K mg
theorem scSay : FnScope ["value", "many"] ["value", "many"] (defScope sSay) := ⟨rfl, rfl, rfl, by decide +kernel, rfl, by decide +kernel, by decide +kernel⟩
theorem sayB_len {m : Nat} : ∀ {ds : List PyData}, ds.length ≠ 2 → sayB m (.tuple ds) = false
  | [], _ => rfl
  | [_], _ => rfl
  | [_, _], h => absurd rfl h
  | _ :: _ :: _ :: _, _ => rfl
theorem ok_say {fI fN fF fS : Addr} {dI dN dF dS : FuncData} (F : FnP K "_is_saying" sSay f fd) (T : Mo mg) (J : Js K mg fI fN fF fS dI dN dF dS) : FnOk P w K mg base CX0 4 f fd ["value", "many"] (spJ2 K sayB) := by
  have GN : FnOk P w K mg base CX0 1 fN dN ["value"] (spJ K nameB) := ok_name J.n T
  have GF : FnOk P w K mg base CX0 3 fF dF ["value", "many"] (spJ2 K formB) := ok_form J.f T J.i J.gi J.z
  have bN : Binds K dN ["value"] [] := J.n.bindsN fun _ _ _ _ _ _ us hl => match us, hl with | [_], _ => rfl
  have bF : Binds K dF ["value", "many"] [] := J.f.bindsN fun _ _ _ _ _ _ us hl => match us, hl with | [_, _], _ => rfl
  refine F.ok scSay (fun vs H Q E h => ?_) (fun cdv A outer s H vs Q E hr h => ?_)
  · obtain ⟨v, d, m, rfl, _⟩ := h
    rfl
  · obtain ⟨v, d, m, rfl, hd, ho, k⟩ := h
    have hr1 := hr.mono (show 1 ≤ 3 by decide)
    refine ⟨_, PSs.nox <| pss_one (ps_ret (pe_and (pe_callB (call_isD (T := "tuple")) (by rfl) T.isi boot_isinstance (pa_cons (pv 0) (pa_cons (pe_bltn (v := .ty "tuple") (by rfl) T.tuple (by decide +kernel) rfl) pa_nil)))
      (pe_and (pe_cmpR op_eq (pe_callB call_len (by rfl) T.len PySem.boot_len (pa_cons (pv 0) pa_nil)) pe_int (nomark _))
      (pe_and (pe_call GN hr1 (by rfl) J.gn J.n.kp bN .nil pass0 (pa_cons (pe_ix ix_tup (pv 0) pe_int (fun _ _ => rfl)) pa_nil))
      (pe_one (pe_call GF hr (by rfl) J.gf J.f.kp bF .nil pass0 (pa_cons (pe_ix ix_tup (pv 0) pe_int (fun _ _ => rfl)) (pa_cons (pv 1) pa_nil)))))))), ?_⟩
    refine ⟨_, rfl, v, d, _, rfl, hd, kit_tuple d, _, rfl, ?_⟩
    have k0 := k H (Same.refl H)
    cases d with
    | tuple ds =>
      obtain ⟨a, xs, rfl, hs, ha⟩ := rp_tup hd
      obtain ⟨hl, hk⟩ := ok_tup ho
      have lx := dp_len ha
      refine ⟨_, rfl, _, xs.length, rfl, .inr ⟨_, hs, rfl⟩, rfl, _, rfl, ?_⟩
      by_cases h2 : ds.length = 2
      · match ds, h2, ha, hk with
        | [p, g], _, ha, hk =>
          cases ha with
          | cons hp ha =>
            cases ha with
            | cons hg ha =>
              cases ha
              rename_i v0 v1
              have k1 : okD p = true := ok_at hk (i := 0) rfl
              have k2 : okD g = true := ok_at hk (i := 1) rfl
              refine ⟨_, rfl, a, _, 0, v0, rfl, rfl, hs, rfl, v0, p, rfl, .inl hp, k1, fun H1 s1 => ⟨_, rfl, ?_⟩⟩
              have eB : sayB m (.tuple [p, g]) = (nameB p && formB m g) := rfl
              cases hn : nameB p with
              | false =>
                rw [hn, Bool.false_and] at eB
                have z := k H1 s1
                rw [eB] at z
                exact z
              | true =>
                rw [hn, Bool.true_and] at eB
                refine ⟨_, rfl, a, _, 1, v1, rfl, rfl, Same.seqT s1 hs, rfl, _, rfl, v1, g, m, rfl, .inl (dp_same s1 g hg), k2, fun H2 s2 => ?_⟩
                have z := k H2 (s1.trans s2)
                rw [eB] at z
                exact z
      · rw [show decide (V.int ((xs.length : Nat) : Int) = V.int 2) = false from decide_eq_false fun e => h2 (by
          have := V.int.inj e
          omega)]
        rw [sayB_len h2] at k0
        exact k0
    | int i => exact k0
    | bool b => exact k0
    | none => exact k0
    | list ds => exact k0
    | str z => exact k0
    | dict ds => exact k0
theorem scBr : FnScope ["value", "many", "source", "target", "tests", "changes"] ["value", "many"] (defScope sBr) := ⟨rfl, rfl, rfl, by decide +kernel, rfl, by decide +kernel, by decide +kernel⟩
theorem brB_len {m : Nat} : ∀ {ds : List PyData}, ds.length ≠ 4 → brB m (.tuple ds) = false
  | [], _ => rfl
  | [_], _ => rfl
  | [_, _], _ => rfl
  | [_, _, _], _ => rfl
  | [_, _, _, _], h => absurd rfl h
  | _ :: _ :: _ :: _ :: _ :: _, _ => rfl
theorem forms_tup {m : Nat} : ∀ {d : PyData}, formsB m d = true → ∃ ds, d = .tuple ds
  | .tuple ds, _ => ⟨ds, rfl⟩
  | .none, h => by cases h
  | .bool _, h => by cases h
  | .int _, h => by cases h
  | .str _, h => by cases h
  | .list _, h => by cases h
  | .dict _, h => by cases h
theorem ok_br {fI fN fF fS : Addr} {dI dN dF dS : FuncData} (F : FnP K "_is_branch" sBr f fd) (T : Mo mg) (J : Js K mg fI fN fF fS dI dN dF dS) : FnOk P w K mg base CX0 5 f fd ["value", "many"] (spJ2 K brB) := by
  have GN : FnOk P w K mg base CX0 1 fN dN ["value"] (spJ K nameB) := ok_name J.n T
  have GS : FnOk P w K mg base CX0 4 fS dS ["value", "many"] (spJ2 K formsB) := ok_forms J.s T J.i J.gi J.f J.gf J.z
  have bN : Binds K dN ["value"] [] := J.n.bindsN fun _ _ _ _ _ _ us hl => match us, hl with | [_], _ => rfl
  have bS : Binds K dS ["value", "many"] [] := J.s.bindsN fun _ _ _ _ _ _ us hl => match us, hl with | [_, _], _ => rfl
  obtain ⟨t1, c1⟩ := T.mtes
  refine F.ok scBr (fun vs H Q E h => ?_) (fun cdv A outer s H vs Q E hr h => ?_)
  · obtain ⟨v, d, m, rfl, _⟩ := h
    rfl
  · obtain ⟨v, d, m, rfl, hd, ho, k⟩ := h
    have hr1 := hr.mono (show 1 ≤ 4 by decide)
    refine ⟨_, PSs.nox <| pss_cons (ps_if (PW.pt (pw_or (pt_not (pt_val (pe_callB (call_isD (T := "tuple")) (by rfl) T.isi boot_isinstance (pa_cons (pv 0) (pa_cons (pe_bltn (v := .ty "tuple") (by rfl) T.tuple (by decide +kernel) rfl) pa_nil)))))
        (pw_or1 (pt_cmpR op_ne (pe_callB call_len (by rfl) T.len PySem.boot_len (pa_cons (pv 0) pa_nil)) pe_int (nomark _))))) (pss_one (ps_ret pe_bl)) pss_nil)
      <| pss_cons (ps_asg (pv 0) (pg_tup (by rfl) (pgs_cons (pg_name (i := 2) scBr.nd rfl (.inl rfl)) (pgs_cons (pg_name (i := 3) scBr.nd rfl (.inl rfl)) (pgs_cons (pg_name (i := 4) scBr.nd rfl (.inl rfl)) (pgs_cons (pg_name (i := 5) scBr.nd rfl (.inl rfl)) pgs_nil))))))
      <| pss_cons (ps_if (PW.pt (pw_or (pt_not (pt_val (pe_call GN hr1 (by rfl) J.gn J.n.kp bN .nil pass0 (pa_cons (pv 2) pa_nil)))) (pw_or1 (pt_not (pt_val (pe_call GN hr1 (by rfl) J.gn J.n.kp bN .nil pass0 (pa_cons (pv 3) pa_nil))))))) (pss_one (ps_ret pe_bl)) pss_nil)
      <| pss_cons (ps_if (PW.pt (pw_or (pt_not (pt_val (pe_call GS hr (by rfl) J.gs J.s.kp bS .nil pass0 (pa_cons (pv 4) (pa_cons (pv 1) pa_nil))))) (pw_or1 (pt_cmpR op_gt (pe_callB call_len (by rfl) T.len PySem.boot_len (pa_cons (pv 4) pa_nil)) (pe_glob (v := .int 3) (by rfl) c1 ⟨_, rfl⟩) (nomark _))))) (pss_one (ps_ret pe_bl)) pss_nil)
      <| pss_one (ps_ret (pe_and (pe_call GS hr (by rfl) J.gs J.s.kp bS .nil pass0 (pa_cons (pv 5) (pa_cons (pv 1) pa_nil))) (pe_one (pe_cmpR op_eq (pe_callB call_len (by rfl) T.len PySem.boot_len (pa_cons (pv 5) pa_nil)) (pv 1) (nomark _))))), ?_⟩
    refine ⟨_, rfl, v, d, _, rfl, hd, kit_tuple d, _, rfl, ?_⟩
    have k0 := k H (Same.refl H)
    cases d with
    | tuple ds =>
      obtain ⟨a, xs, rfl, hs, ha⟩ := rp_tup hd
      obtain ⟨hl, hk⟩ := ok_tup ho
      have lx := dp_len ha
      refine iteF ?_
      refine ⟨_, rfl, _, xs.length, rfl, .inr ⟨_, hs, rfl⟩, rfl, _, rfl, ?_⟩
      by_cases h4 : ds.length = 4
      · refine iteNS (by rw [lx, h4]; rfl) ?_
        match ds, h4, ha, hk, hl, lx with
        | [p, q, ts, cs], _, ha, hk, hl, lx =>
          cases ha with
          | @cons v0 _ _ _ a0 ha =>
          cases ha with
          | @cons v1 _ _ _ a1 ha =>
          cases ha with
          | @cons v2 _ _ _ a2 ha =>
          cases ha with
          | @cons v3 _ _ _ a3 ha =>
          cases ha
          have o0 : okD p = true := ok_at hk (i := 0) rfl
          have o1 : okD q = true := ok_at hk (i := 1) rfl
          have o2 : okD ts = true := ok_at hk (i := 2) rfl
          have o3 : okD cs = true := ok_at hk (i := 3) rfl
          have eB : brB m (.tuple [p, q, ts, cs]) = (nameB p && (nameB q && ((formsB m ts && decide (lenD ts ≤ 3)) && (formsB m cs && decide (lenD cs = m))))) := rfl
          refine ⟨_, rfl, a, _, rfl, hs, rfl, _, _, rfl, _, _, rfl, _, _, rfl, _, _, rfl, rfl, ?_⟩
          refine ⟨_, rfl, v0, p, rfl, .inl a0, o0, fun H1 s1 => ⟨_, rfl, ?_⟩⟩
          cases hp : nameB p with
          | false =>
            rw [hp, Bool.false_and] at eB
            have z := k H1 s1
            rw [eB] at z
            exact iteT (iteT z)
          | true =>
          rw [hp, Bool.true_and] at eB
          refine iteF ?_
          refine ⟨_, rfl, v1, q, rfl, .inl (dp_same s1 q a1), o1, fun H2 s2 => ⟨_, rfl, ?_⟩⟩
          have s12 := s1.trans s2
          cases hq : nameB q with
          | false =>
            rw [hq, Bool.false_and] at eB
            have z := k H2 s12
            rw [eB] at z
            exact iteT z
          | true =>
          rw [hq, Bool.true_and] at eB
          refine iteF ?_
          refine ⟨_, rfl, _, rfl, v2, ts, m, rfl, .inl (dp_same s12 ts a2), o2, fun H3 s3 => ⟨_, rfl, ?_⟩⟩
          have s13 := s12.trans s3
          cases ht : formsB m ts with
          | false =>
            rw [ht, Bool.false_and, Bool.false_and] at eB
            have z := k H3 s13
            rw [eB] at z
            exact iteT (iteT z)
          | true =>
          rw [ht, Bool.true_and] at eB
          refine iteF ?_
          obtain ⟨tds, rfl⟩ := forms_tup ht
          obtain ⟨ta, txs, rfl, hts, htd⟩ := rp_tup (.inl (dp_same s13 _ a2))
          have lt := dp_len htd
          refine ⟨_, rfl, _, txs.length, rfl, .inr ⟨_, hts, rfl⟩, _, _, rfl, rfl, _, rfl, ?_⟩
          by_cases h3 : tds.length ≤ 3
          · have eB2 : brB m (.tuple [p, q, .tuple tds, cs]) = (formsB m cs && decide (lenD cs = m)) := by
              rw [eB, show decide (lenD (.tuple tds) ≤ 3) = true from decide_eq_true h3, Bool.true_and]
            rw [show decide ((3 : Int) < ((txs.length : Nat) : Int)) = false from decide_eq_false (by omega)]
            refine iteF ?_
            refine ⟨_, rfl, _, rfl, v3, cs, m, rfl, .inl (dp_same s13 cs a3), o3, fun H4 s4 => ⟨_, rfl, ?_⟩⟩
            have s14 := s13.trans s4
            cases hc : formsB m cs with
            | false =>
              rw [hc, Bool.false_and] at eB2
              have z := k H4 s14
              rw [eB2] at z
              exact z
            | true =>
              rw [hc, Bool.true_and] at eB2
              obtain ⟨cds, rfl⟩ := forms_tup hc
              obtain ⟨ca, cxs, rfl, hcs, hcd⟩ := rp_tup (.inl (dp_same s14 _ a3))
              have lc := dp_len hcd
              refine ⟨_, rfl, _, cxs.length, rfl, .inr ⟨_, hcs, rfl⟩, _, rfl, rfl, ?_⟩
              have e5 : decide (V.int ((cxs.length : Nat) : Int) = V.int (m : Int)) = decide (lenD (.tuple cds) = m) := by
                rw [decide_eq_decide, V.int.injEq]
                show _ ↔ cds.length = m
                omega
              rw [e5, ← eB2]
              exact k H4 s14
          · rw [show decide ((3 : Int) < ((txs.length : Nat) : Int)) = true from decide_eq_true (by omega)]
            have eB2 : brB m (.tuple [p, q, .tuple tds, cs]) = false := by
              rw [eB, show decide (lenD (.tuple tds) ≤ 3) = false from decide_eq_false h3, Bool.false_and]
            have z := k H3 s13
            rw [eB2] at z
            exact iteT z
      · refine iteNE (fun e => h4 ?_) ?_
        · have e2 : ((xs.length : Nat) : Int) = 4 := V.int.inj e
          omega
        · rw [brB_len h4] at k0
          exact k0
    | int i => exact k0
    | bool b => exact k0
    | none => exact k0
    | list ds => exact k0
    | str z => exact k0
    | dict ds => exact k0
end
end Pg
set_option Elab.async false
set_option linter.all false
set_option maxRecDepth 100000
set_option maxHeartbeats 8000000
namespace Te
open PySem PySem.Spec PyProof.Rows L2 Gd Rl
/-! enumerate over what begins as told, here a tuple -/
abbrev ecell (h : Heap) : Obj := ⟨.type "enumerate", none, .fields #[.none, .bool false, .ref h.objs.size, rawInt 0, .none, .none], #[]⟩
theorem enum_new1 {v : Value} {o : Obj} {S : Heap → Prop} (B : Begins v o S) :
    Meets (Builtin.«enumerate.__new__» ⟨[.type "enumerate", v], []⟩) (fun _ R s => S s.heap ∧ R (.ok (.ret (.ref (s.heap.push o).objs.size))) { s with heap := (s.heap.push o).push (ecell s.heap) }) :=
  .of_wp fun prog w A R s h => by
    obtain ⟨hp, g, d, tk, os⟩ := s
    obtain ⟨hS, h⟩ := h
    have sub1 := sub_enumerate
    have it1 : ∀ {A1 : Around} {E1 Q1 : Value → Shared → Prop}, Q1 (.ref hp.objs.size) ⟨hp.push o, g, d, tk, os⟩ → wpAny (model prog w) A1 (pyIter v) Q1 E1 ⟨hp, g, d, tk, os⟩ := fun q => B.iter prog w _ _ ⟨hp, g, d, tk, os⟩ _ hS q
    wp_walk using it1
    refine wpAny_stack_any fun st => wpAny_pure ?_
    split
    · rename_i c _ _ _ _ _
      cases (c == Value.type "enumerate") <;> (wp_walk using it1; exact ⟨_, rfl, h⟩)
    · wp_walk using it1
      exact ⟨_, rfl, h⟩
theorem enum_call1 {prog : Program} {w : World} {A : Around} {E : Value → Shared → Prop} {s : Shared} {v : Value} {o : Obj} {S : Heap → Prop} {Q : Value → Shared → Prop} (B : Begins v o S) (hS : S s.heap)
    (h : ∀ h', IsEnum h' (s.heap.objs.size + 1) s.heap.objs.size 0 .none → h'.get? s.heap.objs.size = some o → (∀ b ob, s.heap.get? b = some ob → h'.get? b = some ob) → Q (.ref (s.heap.objs.size + 1)) { s with heap := h' }) :
    wpAny (model prog w) A (call (.type "enumerate") [v]) Q E s := by
  refine callType_new F.called_enumerate (by decide) (F.typeCall_enumerate_1 _) (F.newCall_enumerate_1 _) (fun obj => F.args_object_init_2 obj _) F.entry_enumerate_new (enum_new1 B) ⟨hS, ?_⟩
  have z1 : (s.heap.push o).objs.size = s.heap.objs.size + 1 := Heap.size_push ..
  show _ ∧ _
  rw [z1]
  have he : IsEnum ((s.heap.push o).push (ecell s.heap)) (s.heap.objs.size + 1) s.heap.objs.size 0 .none := by
    have q := Heap.get?_push_size (s.heap.push o) (o := ecell s.heap) rfl
    rw [z1] at q
    exact q
  exact ⟨⟨_, he, rfl⟩, h _ he (Heap.get?_push_of_some _ (Heap.get?_push_size _ B.free)) fun b ob x => Heap.get?_push_of_some _ (Heap.get?_push_of_some _ x)⟩
/-- the tuple at a as it stands, each item in a new pair behind its index -/
def Iet (K : PySem.W.Frag) (a : Addr) : It :=
  ⟨fun i H => ∃ (xs : List V) (x : V), SqT K H a xs ∧ xs[i]? = some x, fun i H v H' => ∃ T x, v = .ref T ∧ H T = none ∧ H' = upd H T (.tup [.int (i : Nat), x]) ∧ ∀ xs, SqT K H a xs → xs[i]? = some x, fun i H => ∃ xs : List V, SqT K H a xs ∧ xs.length ≤ i⟩
abbrev StE (a e it : Addr) (i : Nat) (h : Heap) : Prop := (∃ old, IsEnum h e it ((i : Nat) : Int) old) ∧ h.IsTupleIter it a i ∧ (e ≠ it ∧ a ≠ it ∧ e ≠ a)
theorem two {b e it : Addr} (h : b ∈ [e, it]) : b = e ∨ b = it := by simpa using h
theorem turn_enumT {P : Program} {w : World} {K : PySem.W.Frag} {elts : List Expr} {kk : Nat} {tpos : Pos} (a e it : Addr) : Turn P w K (.Tuple elts kk tpos) (Iet K a) [e, it] e (StE a e it) where
  mem := by simp
  obj := fun i h st b hb => by
    obtain ⟨⟨old, he⟩, ⟨o, ho, hc, hd⟩, _⟩ := st
    rcases two hb with rfl | rfl
    · exact ⟨_, he, fun v q => nomatch q⟩
    · exact ⟨o, ho, fun v q => by rw [hd] at q; cases q⟩
  keep := fun i h h' st k => let ⟨⟨old, he⟩, hi, hne⟩ := st; ⟨⟨old, k e (by simp) _ he⟩, hi.at fun o q => k it (by simp) o q, hne⟩
  item := by
    intro X hP hw hK hc i pins s σ H E I hf st hg
    subst hP hw hK
    obtain ⟨⟨old, he⟩, hit, n1, n2, n3⟩ := st
    obtain ⟨xs, x, hq, hx⟩ := hg
    obtain ⟨its, rv, p, hz⟩ := I.tuple hq
    obtain ⟨u, hu, ru⟩ := rv.get hx
    have hel : e < s.heap.objs.size := Heap.lt_size he
    have hil : it < s.heap.objs.size := by
      obtain ⟨_, q, _⟩ := hit
      exact Heap.lt_size q
    have D := Draws.tuple (prog := X.prog) (w := X.w) (A := X.A.in1) (I.ok.hd hc) it a n2 its.toArray
    have hlt : i < its.toArray.size := by
      have := (List.getElem?_eq_some_iff.mp hu).1
      simpa using this
    refine wpAny_pyNext_enum_itemD D he ⟨hit, p⟩ hlt n1 (fun hm => ?_) fun y h' tk hy ho hst' hT hsz hk => ?_
    · rcases (by simpa using hm : e = it ∨ e = a) with q | q
      · exact n1 q
      · exact n3 q
    · have ey : y = u := by
        have h1 : its[i]? = some y := by simpa using hy
        rw [hu] at h1
        exact (Option.some.inj h1).symm
      subst ey
      refine ⟨_, rfl, wpAny_letOwnedTupleGo_enum (s := { s with heap := h', toks := tk + 1 }) ho fun h'' he' sb => ?_⟩
      have hT2 : h''.get? s.heap.objs.size = some { cls := .type "tuple", data := .seq #[.int i tk, y] } := (sb.2 _ (Nat.ne_of_gt hel)).trans hT
      have new : ObjOk X.prog X.w (upd H s.heap.objs.size (.tup [.int (i : Nat), x])) h'' s.heap.objs.size (.tup [.int (i : Nat), x]) :=
        ⟨by show 2 ≤ sizeLine; decide, [.int i tk, y], .cons ⟨_, rfl⟩ (.cons ru .nil), ⟨_, hT2, rfl, _, rfl⟩⟩
      have I1 : Inv X pins σ (upd H s.heap.objs.size (.tup [.int (i : Nat), x])) { s with heap := h'', toks := tk + 1 } :=
        I.turnedNew (ch := [e, it]) (fun b ob hb q => (sb.2 b (fun z => hb (by simp [z]))).trans (hk b ob (fun z => hb (by simp [z])) (fun z => hb (by simp [z])) q)) hf (Nat.le_refl _) new
      refine ⟨.ref s.heap.objs.size, _, I1, rfl, ⟨_, x, rfl, I.hok.fresh (Nat.le_refl _), rfl, fun ys hys => by rw [I.tuple_inj hys hq]; exact hx⟩, ⟨⟨y, ?_⟩, hst'.1.at fun o q => (sb.2 it (Ne.symm n1)).trans q, n1, n2, n3⟩, fun b hb => ?_⟩
      · rw [show ((i + 1 : Nat) : Int) = (i : Int) + 1 by omega]
        exact he'
      · have hb' : b < s.heap.objs.size := by
          rcases two hb with rfl | rfl
          · exact hel
          · exact hil
        rw [upd_ne (Nat.ne_of_lt hb')]
        exact (hf b hb).1
  done := by
    intro X hP hw hK hc i pins s σ H E I hf st hg
    subst hP hw hK
    obtain ⟨⟨old, he⟩, hit, n1, n2, n3⟩ := st
    obtain ⟨xs, hq, hx⟩ := hg
    obtain ⟨its, rv, p, hz⟩ := I.tuple hq
    obtain ⟨f0, f1, f2, f3, f4, f5⟩ := hf it (by simp)
    have hl := rv.length
    have hnone : its.toArray[i]? = none := by
      simp
      omega
    have D : Draws X.prog X.w X.A.in1 it [it, a] i (fun _ _ => False) (fun j h => j = i ∧ h.IsTupleIter it a i ∧ h.IsTuple a its.toArray) :=
      { live := fun j h ⟨_, q, _⟩ => let ⟨o, ho, _⟩ := q; ⟨o, ho⟩
        frame := fun j h h' ⟨e1, q1, q2⟩ k => ⟨e1, q1.at fun o e => k it (by simp) o e, q2.at fun o e => k a (by simp) o e⟩
        item := fun j s Q E hj ⟨e1, _⟩ _ => absurd e1 (Nat.ne_of_lt hj)
        done := fun s Q E ⟨_, q1, q2⟩ hE => wpAny_nextOf_tuple_end (I.ok.hd hc) q1 q2 hnone hE }
    exact wpAny_pyNext_enum_endD D he ⟨rfl, hit, p⟩ fun h' eb => ⟨rfl, I.turned (t' := s.toks) (fun b o hb q => eb b o hb q) f0 f1 f3 f4 f5⟩
  self := fun A i s Q E st h => let ⟨⟨_, he⟩, _⟩ := st; wpAny_pyIter_enum he h
def iEnumT (K : PySem.W.Frag) (ta : TA) : TI := fun σ H R => ta σ H fun vs H1 => ∃ a xs, vs = [.ref a] ∧ SqT K H1 a xs ∧ R (Iet K a) H1
theorem pi_enumT {X : Cx} {e : Expr} {ta : TA} {p pos tpos : Pos} {elts : List Expr} {kk : Nat} (hg : Gl X "enumerate") (hm : X.mg "enumerate" = none) (ha : PA X [e] ta) (hs : starEach [e] X.env = [(false, eval e X.env)] := by rfl) :
    PI X (.Tuple elts kk tpos) (.Call (.Name "enumerate" p) [e] [] pos) (iEnumT X.K ta) := by
  refine ⟨fun pins s σ H R I h => ?_⟩
  refine Call_ (ld_blt I hg hm boot_enumerate (PyProof.Rows.callWith_type1 (thn (ha.run pos pins s σ H _ I h) fun us s1 ⟨vs, H1, I1, r1, q1⟩ => ?_) hs rfl))
  obtain ⟨a, xs, ex, hq, q⟩ := q1
  subst ex
  cases r1 with
  | cons r rr =>
    cases rr
    cases r
    obtain ⟨its, rv, p', hz⟩ := I1.tuple hq
    have pt : s1.heap.IsTuple a its.toArray := p'
    have hal : a < s1.heap.objs.size := by
      obtain ⟨_, q, _⟩ := pt
      exact Heap.lt_size q
    refine enum_call1 (begins_tuple a its.toArray) pt fun h' he hit hk => wpAny_pyIter_enum he ?_
    have I2 : Inv X pins σ H1 { s1 with heap := h' } := I1.kept (t' := s1.toks) hk
    refine ⟨s1.heap.objs.size + 1, [s1.heap.objs.size + 1, s1.heap.objs.size], _, _, H1, rfl, I2, turn_enumT a (s1.heap.objs.size + 1) s1.heap.objs.size, ⟨⟨.none, he⟩, ⟨_, hit, rfl, rfl⟩, Nat.succ_ne_self _, Nat.ne_of_lt hal, Nat.ne_of_gt (Nat.lt_succ_of_lt hal)⟩, fun b hb => ?_, q⟩
    have hle : s1.heap.objs.size ≤ b := by
      rcases two hb with rfl | rfl
      · exact Nat.le_add_right _ _
      · exact Nat.le_refl _
    exact I1.fpOk hle (I1.hok.fresh hle)
theorem walk_enumT {K : PySem.W.Frag} {a : Addr} {xs : List V} : Walk (Iet K a) xs.length (fun H => SqT K H a xs) (YPair (fun i => some (.int (i : Nat))) (fun i => xs[i]?)) :=
  ⟨fun i _ hi q => ⟨xs, xs[i], q, by simp [hi]⟩, fun _ q => ⟨xs, q, Nat.le_refl _⟩, fun i H v H' _ q y => let ⟨T, x, h1, h2, h3, h4⟩ := y; ⟨T, .int (i : Nat), x, h1, h2, h3, rfl, h4 xs q⟩⟩
end Te
set_option Elab.async false
set_option linter.all false
set_option maxRecDepth 100000
set_option maxHeartbeats 8000000
namespace Pg
open PySem PySem.Spec PyProof.Rows L2 Gd Rl Te
abbrev sCN : Stmt := top 42
abbrev sCS : Stmt := top 43
abbrev sPl : Stmt := top 47
/-! ### the parts of a program -/
structure Arm where
  src : Str
  tgt : Str
  tests : List (List Int)
  turns : List (List Int)
def fD (f : List Int) : PyData := .tuple (f.map PyData.int)
def sayD (s : Str × List Int) : PyData := .tuple [.str s.1, fD s.2]
def armD (a : Arm) : PyData := .tuple [.str a.src, .str a.tgt, .tuple (a.tests.map fD), .tuple (a.turns.map fD)]
def namesD (ns : List Str) : PyData := .tuple (ns.map PyData.str)
def saysD (ss : List (Str × List Int)) : PyData := .tuple (ss.map sayD)
def armsD (as : List Arm) : PyData := .tuple (as.map armD)
theorem iteDN {c A B : Prop} [Decidable c] (hc : ¬ c) (h : B) : if decide c = true then A else B := by
  rw [decide_eq_false hc]
  exact iteF h
theorem iteDY {c A B : Prop} [Decidable c] (hc : c) (h : A) : if decide c = true then A else B := by
  rw [decide_eq_true hc]
  exact iteT h
theorem iteBF {b : Bool} {A B : Prop} (hb : b = false) (h : B) : if b = true then A else B := by
  rw [hb]
  exact iteF h
theorem iteBT {b : Bool} {A B : Prop} (hb : b = true) (h : A) : if b = true then A else B := by
  rw [hb]
  exact iteT h
theorem notT {b : Bool} (h : b = true) : (!b) = false := by rw [h]; rfl
/-! ### a part of a tuple -/
def rSlTR (K : PySem.W.Frag) : V → Option Int → Option Int → Hp → VK → Prop := fun x lo hi H Q => ∃ a xs, x = .ref a ∧ SqT K H a xs ∧ ∀ p H2, Same H H2 → SqT K H2 p (cutV xs lo hi) → Q (.ref p) H2
theorem cut_whole {xs : List V} {lo hi : Option Int} (h : HT.sIx xs.length 0 lo = 0 ∧ HT.sIx xs.length xs.length hi = xs.length) : cutV xs lo hi = xs := by
  unfold cutV
  rw [h.1, h.2, List.drop_zero, Nat.sub_zero, List.take_length]
theorem cut_take {xs : List V} {i : Nat} (h : i ≤ xs.length) : cutV xs none (some (i : Int)) = xs.take i := by
  unfold cutV
  rw [HT.sIx_none, HT.sIx_nat, List.drop_zero, Nat.sub_zero, Nat.min_eq_left h]
theorem sl_tupR {X : Cx} : SlR X (rSlTR X.K) := by
  intro pins s σ H x v vl vu lo hi sl Q I rx hs pl pu h
  obtain ⟨a, xs, e, hx, q⟩ := h
  refine sl_tupA pins s σ H x v vl vu lo hi sl Q I rx hs pl pu ⟨a, xs, e, hx, fun w => q a H (Same.refl H) (by rw [cut_whole w]; exact hx), fun _ p np => q p _ (same_new np) (SqT.of upd_same)⟩
theorem dp_strs {K : PySem.W.Frag} {H : Hp} : ∀ {ns : List Str} {vs : List V}, DpAll K H vs (ns.map PyData.str) → vs = ns.map V.str
  | [], _, h => by
    cases h
    rfl
  | n :: ns, _, h => by
    cases h with
    | cons a b =>
      cases a
      rw [List.map_cons, dp_strs b]
theorem flat_strs (ns : List Str) : (ns.map V.str).all flatV = true := by
  rw [List.all_map]
  exact List.all_eq_true.mpr fun _ _ => rfl
theorem inV_strs (z : Str) : ∀ ns : List Str, inV (.str z) (ns.map V.str) = ns.contains z
  | [] => rfl
  | n :: ns => by
    have ih := inV_strs z ns
    unfold inV at ih ⊢
    rw [List.map_cons, List.any_cons, ih, List.contains_cons]
    congr 1
    show (n == z) = (z == n)
    rw [Bool.eq_iff_iff]
    simp only [beq_iff_eq]
    exact eq_comm
theorem name_len {z : Str} (h : nameS z = true) : z.length ≤ 1000 := by
  have lz : z.length = z.cps.toList.length := by
    rw [Array.length_toList]
    rfl
  unfold nameS at h
  rw [lz]
  cases e : z.cps.toList with
  | nil => exact Nat.zero_le _
  | cons c r =>
    rw [e] at h
    simp only [Bool.and_eq_true, decide_eq_true_eq] at h
    omega
section
variable {P : Program} {w : World} {K : PySem.W.Frag} {mg : Str → Option Value} {base : Heap} {f : Addr} {fd : FuncData}
/-! ### _check_names -/
structure OkN (ns : List Str) : Prop where
  one : 1 ≤ ns.length
  three : ns.length ≤ 3
  nm : ∀ z ∈ ns, nameS z = true
  nd : ns.Nodup
theorem not_ahead {ns : List Str} (h : ns.Nodup) {i : Nat} {z : Str} (e : ns[i]? = some z) : (ns.take i).contains z = false := by
  rw [Bool.eq_false_iff]
  intro hc
  have hm : z ∈ ns.take i := by simpa using hc
  obtain ⟨j, hj, ej⟩ := List.getElem_of_mem hm
  have hj2 : j < i ∧ j < ns.length := by
    rw [List.length_take] at hj
    omega
  rw [List.getElem_take] at ej
  obtain ⟨hi, ei⟩ := List.getElem?_eq_some_iff.mp e
  exact List.pairwise_iff_getElem.mp h j i hj2.2 hi hj2.1 (by rw [ej, ei])
def spCN (K : PySem.W.Frag) : Sp := fun vs H Q _ => ∃ (v : V) (ns : List Str), vs = [v] ∧ Dp K H v (namesD ns) ∧ OkN ns ∧ ∀ H', Same H H' → Q .non H'
theorem scCN : FnScope ["names", "at", "name"] ["names"] (defScope sCN) := ⟨rfl, rfl, rfl, by decide +kernel, rfl, by decide +kernel, by decide +kernel⟩
theorem ok_cn {fI fN fF fS : Addr} {dI dN dF dS : FuncData} (F : FnP K "_check_names" sCN f fd) (T : Mo mg) (J : Js K mg fI fN fF fS dI dN dF dS) : FnOk P w K mg base CX0 2 f fd ["names"] (spCN K) := by
  have GN : FnOk P w K mg base CX0 1 fN dN ["value"] (spJ K nameB) := ok_name J.n T
  have bN : Binds K dN ["value"] [] := J.n.bindsN fun _ _ _ _ _ _ us hl => match us, hl with | [_], _ => rfl
  obtain ⟨t1, c1⟩ := T.mvar
  refine F.ok scCN (fun vs H Q E h => ?_) (fun cdv A outer s H vs Q E hr h => ?_)
  · obtain ⟨v, d, rfl, _⟩ := h
    rfl
  · obtain ⟨v, ns, rfl, hd, ok, k⟩ := h
    refine ⟨_, PSs.nox <| pss_cons (ps_if (PW.pt (pw_or (pt_not (pt_val (pe_callB (call_isD (T := "tuple")) (by rfl) T.isi boot_isinstance (pa_cons (pv 0) (pa_cons (pe_bltn (v := .ty "tuple") (by rfl) T.tuple (by decide +kernel) rfl) pa_nil)))))
        (pw_or1 (pt_not (pt_truth (pv 0) (by intro _; rfl)))))) (pss_one ps_never) pss_nil)
      <| pss_one (ps_for PassesOwn.never rfl (pi_enumT (by rfl) T.enum (pa_cons (pv 0) pa_nil)) (pg_tup (by rfl) (pgs_cons (pg_name (i := 1) scCN.nd rfl (.inl rfl)) (pgs_cons (pg_name (i := 2) scCN.nd rfl (.inl rfl)) pgs_nil)))
          (pss_one (ps_if (PW.pt (pw_or (pt_cmpR op_ge (pv 1) (pe_glob (v := .int 3) (by rfl) c1 ⟨_, rfl⟩) (nomark _))
            (pw_or (pt_not (pt_val (pe_call GN hr (by rfl) J.gn J.n.kp bN .nil pass0 (pa_cons (pv 2) pa_nil)))) (pw_or1 (pt_cmpR op_in_seq (pv 2) (pe_slice (r := rSlTR K) sl_tupR (pv 0) po_none (po_some (pv 1))) (by rfl)))))) (pss_one ps_never) pss_nil))), ?_⟩
    obtain ⟨a, xs, rfl, hs, ha⟩ := rp_tup (.inl hd)
    have ex := dp_strs ha
    subst ex
    refine ⟨_, rfl, _, _, _, rfl, .inl hd, kit_tuple _, _, rfl, ?_⟩
    refine iteF ?_
    refine ⟨_, rfl, true, .inr (.inl ⟨_, hs, ?_⟩), ?_⟩
    · cases ns with
      | nil => exact absurd ok.one (by decide)
      | cons n ns => rfl
    refine iteF ?_
    refine ⟨_, rfl, a, _, rfl, hs, for_it walk_enumT (fun i σ H' => ∃ x1 x2, σ = [some (.ref a), x1, x2] ∧ Same H H') ⟨_, _, rfl, Same.refl H⟩ (fun i σ H' _ ⟨_, _, _, s⟩ => Same.seqT s hs) ?_ ?_⟩
    · rintro i x σ H1 H2 hi ⟨x1, x2, rfl, s1⟩ ⟨T, y, z, rfl, nT, rfl, ey, ez⟩
      cases ey
      have hi' : i < ns.length := by simpa using hi
      obtain ⟨nm, en, rfl⟩ : ∃ nm, ns[i]? = some nm ∧ z = .str nm := by
        replace ez : (ns.map V.str)[i]? = some z := ez
        rw [List.getElem?_map] at ez
        cases e : ns[i]? with
        | none =>
          rw [e] at ez
          cases ez
        | some nm =>
          rw [e] at ez
          exact ⟨nm, rfl, (Option.some.inj ez).symm⟩
      have hnm : nameS nm = true := ok.nm nm (List.mem_of_getElem? en)
      have s2 : Same H (upd H1 T (.tup [.int (i : Nat), .str nm])) := s1.trans (same_new nT)
      refine ⟨T, _, rfl, SqT.of upd_same, rfl, _, _, rfl, _, _, rfl, rfl, ?_⟩
      refine ⟨_, rfl, _, _, rfl, rfl, _, rfl, ?_⟩
      have h3 := ok.three
      refine iteDN (by omega) ?_
      refine ⟨_, rfl, _, .str nm, rfl, .inl (.str _), decide_eq_true (name_len hnm), fun H3 s3 => ⟨_, rfl, ?_⟩⟩
      refine iteBF (notT hnm) ?_
      have s13 := s2.trans s3
      refine ⟨_, rfl, _, rfl, _, rfl, _, rfl, a, _, rfl, Same.seqT s13 hs, fun p H4 s4 hp => ?_⟩
      rw [cut_take (by rw [List.length_map]; omega), ← List.map_take] at hp
      refine ⟨p, _, rfl, .inr hp, rfl, flat_strs _, _, rfl, ?_⟩
      refine iteBF (by rw [if_neg Bool.false_ne_true, inV_strs]; exact not_ahead ok.nd en) ?_
      exact ⟨_, _, rfl, s13.trans s4⟩
    · rintro σ H' ⟨x1, x2, rfl, s1⟩
      exact k H' s1
/-! ### _check_sayings -/
theorem say_ok {m : Nat} (hm : m ≤ 900) {s : Str × List Int} (h : sayB m (sayD s) = true) : okD (sayD s) = true := by
  have h1 : nameS s.1 = true ∧ formB m (fD s.2) = true := by
    have : (nameS s.1 && formB m (fD s.2)) = true := h
    simpa using this
  have h2 : (decide ((s.2.map PyData.int).length = m + 1) && (s.2.map PyData.int).all numB) = true := h1.2
  have h3 : s.2.length = m + 1 := by
    rw [Bool.and_eq_true] at h2
    have := of_decide_eq_true h2.1
    simpa using this
  have hi : ∀ l : List Int, okAll (l.map PyData.int) = true := fun l => by
    induction l with
    | nil => rfl
    | cons a l ih =>
      rw [List.map_cons, okAll, ih]
      rfl
  have hf : okD (fD s.2) = true := by
    unfold fD
    rw [okD, hi, decide_eq_true (by rw [List.length_map]; omega)]
    rfl
  unfold sayD
  simp only [okD, okAll, hf, decide_eq_true (name_len h1.1)]
  rfl
structure OkS (m : Nat) (ss : List (Str × List Int)) : Prop where
  three : ss.length ≤ 3
  sy : ∀ s ∈ ss, sayB m (sayD s) = true
def spCS (K : PySem.W.Frag) : Sp := fun vs H Q _ => ∃ (v : V) (m : Nat) (ss : List (Str × List Int)), vs = [v, .int m] ∧ m ≤ 900 ∧ Dp K H v (saysD ss) ∧ OkS m ss ∧ ∀ H', Same H H' → Q .non H'
theorem scCS : FnScope ["sayings", "many", "at", "saying"] ["sayings", "many"] (defScope sCS) := ⟨rfl, rfl, rfl, by decide +kernel, rfl, by decide +kernel, by decide +kernel⟩
theorem map_at {α : Type} {K : PySem.W.Frag} {H : Hp} {g : α → PyData} {l : List α} {xs : List V} (ha : DpAll K H xs (l.map g)) {i : Nat} {z : V} (e : xs[i]? = some z) : ∃ s, l[i]? = some s ∧ Dp K H z (g s) := by
  obtain ⟨d, e1, e2⟩ := dp_at ha e
  rw [List.getElem?_map] at e1
  cases h : l[i]? with
  | none =>
    rw [h] at e1
    cases e1
  | some s =>
    rw [h] at e1
    have e3 : g s = d := Option.some.inj e1
    exact ⟨s, rfl, e3 ▸ e2⟩
theorem ok_cs {fI fN fF fS fY : Addr} {dI dN dF dS dY : FuncData} (F : FnP K "_check_sayings" sCS f fd) (T : Mo mg) (J : Js K mg fI fN fF fS dI dN dF dS) (FY : FnP K "_is_saying" sSay fY dY) (gY : mg "_is_saying" = some (.ref fY)) : FnOk P w K mg base CX0 5 f fd ["sayings", "many"] (spCS K) := by
  have GY : FnOk P w K mg base CX0 4 fY dY ["value", "many"] (spJ2 K sayB) := ok_say FY T J
  have bY : Binds K dY ["value", "many"] [] := FY.bindsN fun _ _ _ _ _ _ us hl => match us, hl with | [_, _], _ => rfl
  obtain ⟨t1, c1⟩ := T.msay
  refine F.ok scCS (fun vs H Q E h => ?_) (fun cdv A outer s H vs Q E hr h => ?_)
  · obtain ⟨v, m, ss, rfl, _⟩ := h
    rfl
  · obtain ⟨v, m, ss, rfl, hm, hd, ok, k⟩ := h
    refine ⟨_, PSs.nox <| pss_cons (ps_if (pt_not (pt_val (pe_callB (call_isD (T := "tuple")) (by rfl) T.isi boot_isinstance (pa_cons (pv 0) (pa_cons (pe_bltn (v := .ty "tuple") (by rfl) T.tuple (by decide +kernel) rfl) pa_nil))))) (pss_one ps_never) pss_nil)
      <| pss_one (ps_for PassesOwn.never rfl (pi_enumT (by rfl) T.enum (pa_cons (pv 0) pa_nil)) (pg_tup (by rfl) (pgs_cons (pg_name (i := 2) scCS.nd rfl (.inl rfl)) (pgs_cons (pg_name (i := 3) scCS.nd rfl (.inl rfl)) pgs_nil)))
          (pss_one (ps_if (PW.pt (pw_or (pt_cmpR op_ge (pv 2) (pe_glob (v := .int 3) (by rfl) c1 ⟨_, rfl⟩) (nomark _))
            (pw_or1 (pt_not (pt_val (pe_call GY hr (by rfl) gY FY.kp bY .nil pass0 (pa_cons (pv 3) (pa_cons (pv 1) pa_nil)))))))) (pss_one ps_never) pss_nil))), ?_⟩
    obtain ⟨a, xs, rfl, hs, ha⟩ := rp_tup (.inl hd)
    have lx := dp_len ha
    rw [List.length_map] at lx
    refine ⟨_, rfl, _, _, _, rfl, .inl hd, kit_tuple _, _, rfl, ?_⟩
    refine iteF ?_
    refine ⟨_, rfl, a, _, rfl, hs, for_it walk_enumT (fun i σ H' => ∃ x1 x2, σ = [some (.ref a), some (.int m), x1, x2] ∧ Same H H') ⟨_, _, rfl, Same.refl H⟩ (fun i σ H' _ ⟨_, _, _, s⟩ => Same.seqT s hs) ?_ ?_⟩
    · rintro i x σ H1 H2 hi ⟨x1, x2, rfl, s1⟩ ⟨T, y, z, rfl, nT, rfl, ey, ez⟩
      cases ey
      obtain ⟨sy, es, hz⟩ := map_at ha ez
      have hsy := ok.sy sy (List.mem_of_getElem? es)
      have s2 : Same H (upd H1 T (.tup [.int (i : Nat), z])) := s1.trans (same_new nT)
      refine ⟨T, _, rfl, SqT.of upd_same, rfl, _, _, rfl, _, _, rfl, rfl, ?_⟩
      refine ⟨_, rfl, _, _, rfl, rfl, _, rfl, ?_⟩
      have h3 := ok.three
      refine iteDN (by omega) ?_
      refine ⟨_, rfl, _, rfl, z, sayD sy, m, rfl, .inl (dp_same s2 _ hz), say_ok hm hsy, fun H3 s3 => ⟨_, rfl, ?_⟩⟩
      refine iteBF (notT hsy) ?_
      exact ⟨_, _, rfl, s2.trans s3⟩
    · rintro σ H' ⟨x1, x2, rfl, s1⟩
      exact k H' s1
end
end Pg
set_option Elab.async false
set_option linter.all false
set_option maxRecDepth 100000
set_option maxHeartbeats 8000000
namespace Pg
open PySem PySem.Spec PyProof.Rows L2 Gd Rl Te
/-! ### the places -/
def standS (ss : List (Str × List Int)) (as : List Arm) : List Str := ss.map Prod.fst ++ (as.map fun a => [a.src, a.tgt]).flatten
def firstB (l : List Str) (i : Nat) : Bool := !(l.take i).contains (l.getD i "")
def firsts (l : List Str) : List Str := ((List.range l.length).filter (firstB l)).map fun i => l.getD i ""
def placesS (ss : List (Str × List Int)) (as : List Arm) : List Str := firsts (standS ss as)
theorem firsts_le (l : List Str) : (firsts l).length ≤ l.length := by
  unfold firsts
  rw [List.length_map]
  exact Nat.le_trans (List.length_filter_le _ _) (by rw [List.length_range]; exact Nat.le_refl _)
theorem flat_two (as : List Arm) : ((as.map fun a => [a.src, a.tgt]).flatten).length = 2 * as.length := by
  induction as with
  | nil => rfl
  | cons a as ih =>
    rw [List.map_cons, List.flatten_cons, List.length_append, ih]
    show 2 + 2 * as.length = 2 * (as.length + 1)
    omega
theorem stand_len (ss : List (Str × List Int)) (as : List Arm) : (standS ss as).length = ss.length + 2 * as.length := by
  unfold standS
  rw [List.length_append, List.length_map, flat_two]
theorem firsts_app (l r : List Str) : (firsts l).length ≤ (firsts (l ++ r)).length := by
  unfold firsts
  rw [List.length_map, List.length_map, List.length_append, List.range_add, List.filter_append, List.length_append]
  have e : (List.range l.length).filter (firstB (l ++ r)) = (List.range l.length).filter (firstB l) := by
    apply List.filter_congr
    intro i hi
    have hi2 : i < l.length := List.mem_range.mp hi
    unfold firstB
    rw [List.take_append_of_le_length (Nat.le_of_lt hi2), List.getD_eq_getElem?_getD, List.getD_eq_getElem?_getD, List.getElem?_append_left hi2]
  rw [e]
  exact Nat.le_add_right _ _
theorem places_take (ss : List (Str × List Int)) (as : List Arm) (i : Nat) : (placesS ss (as.take i)).length ≤ (placesS ss as).length := by
  have e : standS ss as = standS ss (as.take i) ++ ((as.drop i).map fun a => [a.src, a.tgt]).flatten := by
    unfold standS
    rw [List.append_assoc, ← List.flatten_append, ← List.map_append, List.take_append_drop]
  unfold placesS
  rw [e]
  exact firsts_app _ _
theorem list_is {α : Type} {l : List α} {g : α → V} {ys : List V} (hl : ys.length = l.length) (h : ∀ (i : Nat) (y : V), ys[i]? = some y → ∃ s, l[i]? = some s ∧ y = g s) : ys = l.map g := by
  apply List.ext_getElem
  · rw [hl, List.length_map]
  · intro i h1 h2
    obtain ⟨s, e1, e2⟩ := h i _ (List.getElem?_eq_getElem h1)
    rw [e2, List.getElem_map]
    obtain ⟨q, e3⟩ := List.getElem?_eq_some_iff.mp e1
    rw [e3]
theorem fst_strs (ss : List (Str × List Int)) : (ss.map fun s => V.str s.1) = (ss.map Prod.fst).map V.str := by
  rw [List.map_map]
  rfl
theorem ahead_len (p : Nat → Bool) (i : Nat) : ((List.range i).filter p).length ≤ i := Nat.le_trans (List.length_filter_le _ _) (by rw [List.length_range]; exact Nat.le_refl _)
theorem strs_at {l : List Str} {i : Nat} {z : V} (e : (l.map V.str)[i]? = some z) : ∃ c, l[i]? = some c ∧ z = .str c := by
  rw [List.getElem?_map] at e
  cases h : l[i]? with
  | none =>
    rw [h] at e
    cases e
  | some c =>
    rw [h] at e
    exact ⟨c, rfl, (Option.some.inj e).symm⟩
section
variable {P : Program} {w : World} {K : PySem.W.Frag} {mg : Str → Option Value} {base : Heap} {f : Addr} {fd : FuncData}
def spPl (K : PySem.W.Frag) : Sp := fun vs H Q _ => ∃ (u v : V) (ss : List (Str × List Int)) (as : List Arm), vs = [u, v] ∧ Dp K H u (saysD ss) ∧ Dp K H v (armsD as) ∧ ss.length ≤ 3 ∧ as.length ≤ 5 ∧ ∀ p H', Same H H' → SqT K H' p ((placesS ss as).map V.str) → Q (.ref p) H'
abbrev nPl : List Str := ["sayings", "branches", "saying", "standing", "branch", "at", "place"]
theorem scPl : FnScope nPl ["sayings", "branches"] (defScope sPl) := ⟨rfl, rfl, rfl, by decide +kernel, rfl, by decide +kernel, by decide +kernel⟩
theorem ok_pl (F : FnP K "_places_of" sPl f fd) (T : Mo mg) : FnOk P w K mg base CX0 1 f fd ["sayings", "branches"] (spPl K) := by
  refine F.ok scPl (fun vs H Q E h => ?_) (fun cdv A outer s H vs Q E hr h => ?_)
  · obtain ⟨u, v, ss, as, rfl, _⟩ := h
    rfl
  · obtain ⟨u, v, ss, as, rfl, hu, hv, l3, l5, k⟩ := h
    refine ⟨_, PSs.nox <| pss_cons (ps_set (i := 3) scPl.nd rfl (.inr rfl) (pe_lc (own := [("saying", 2)]) (g := gName 2) (tt := tYes) rfl scPl.nd (pi_tup (pv 0)) (blkOk_by (N := nPl) (sc := defScope sPl) (by decide +kernel)) (fun _ _ _ _ _ => pg_name (i := 2) scPl.nd rfl (Or.inl rfl)) (fun _ _ _ _ _ => pts_nil)
          (fun _ _ _ _ _ => pe_ix (r := rIxT K) ix_tup (pv 2) pe_int (fun _ _ => rfl))))
      <| pss_cons (ps_for PassesOwn.never rfl (pi_tup (pv 1)) (pg_name (i := 4) scPl.nd rfl (.inl rfl))
          (pss_one (ps_expr (pe_bm PySem.F.plainAttrs_list PySem.F.slot_list_extend PySem.F.type_list_extend mt_extend (pv 3) (pa_cons (pe_lstR (pa_cons (pe_ix ix_tup (pv 4) pe_int (fun _ _ => rfl)) (pa_cons (pe_ix ix_tup (pv 4) pe_int (fun _ _ => rfl)) pa_nil))) pa_nil)))))
      <| pss_one (ps_ret (pe_callTy call_tuple_of (by rfl) T.tuple (by decide +kernel) (pa_cons (pe_lc (own := [("at", 5), ("place", 6)]) (g := gTup K 2 (gCons (gName 5) (gCons (gName 6) gNil))) rfl scPl.nd (pi_enum (by rfl) T.enum (pa_cons (pv 3) pa_nil)) (blkOk_by (N := nPl) (sc := defScope sPl) (by decide +kernel))
          (fun _ _ _ _ _ => pg_tup (by rfl) (pgs_cons (pg_name (i := 5) scPl.nd rfl (.inl rfl)) (pgs_cons (pg_name (i := 6) scPl.nd rfl (.inl rfl)) pgs_nil)))
          (fun _ _ _ _ _ => pts_one (pt_cmpR (r := rIn K true) op_notIn_seq (pv 6) (pe_slice (r := rSlR K) sl_listR (pv 3) po_none (po_some (pv 5))) (by rfl)))
          (fun _ _ _ _ _ => pv 6)) pa_nil))), ?_⟩
    obtain ⟨a, xs, rfl, hs, ha⟩ := rp_tup (.inl hu)
    obtain ⟨b, ys, rfl, hb, hbs⟩ := rp_tup (.inl hv)
    have lx := dp_len ha
    have ly := dp_len hbs
    rw [List.length_map] at lx ly
    refine ⟨_, rfl, a, rfl, ⟨_, hs⟩, lcR (walk_tup (xs := xs)) (n1 := by omega) (fun H' s' => Same.seqT s' hs) (fun i y _ => ∃ s, ss[i]? = some s ∧ y = .str s.1) (fun _ _ _ _ _ e => e) ?_ ?_⟩
    · rintro D acc i x Ha Hb K2 hi s nD hD ⟨rfl, ex⟩ kk
      obtain ⟨sy, es, hz⟩ := map_at ha ex
      obtain ⟨p, zs, rfl, hp, hzs⟩ := rp_tup (.inl hz)
      cases hzs with
      | cons z0 hz1 =>
        cases z0
        cases hz1 with
        | cons z1 hz2 =>
        cases hz2
        exact ⟨rfl, _, rfl, p, _, 0, _, rfl, rfl, Same.seqT s hp, rfl, kk _ _ (Same.refl _) ⟨sy, es, rfl⟩⟩
    · rintro D H1 zs nw hlen he
      have ez : zs = (ss.map Prod.fst).map V.str := by
        rw [← fst_strs]
        exact list_is (by rw [hlen, lx]) he
      subst ez
      obtain ⟨nD, hD, s1⟩ := nw
      refine ⟨_, rfl, b, rfl, ⟨_, Same.seqT s1 hb⟩, for_tup (Pv := fun i σ H' => ∃ x2 x4 x5 x6, σ = [some (.ref a), some (.ref b), x2, some (.ref D), x4, x5, x6] ∧ Same H H' ∧ H' D = some (.lst ((standS ss (as.take i)).map V.str))) ⟨_, _, _, _, rfl, s1, ?_⟩ (fun i σ H' _ ⟨_, _, _, _, _, s, _⟩ => Same.seqT s hb) ?_ ?_⟩
      · rw [hD]
        congr 3
        unfold standS
        simp
      · rintro i x σ H2 ex ⟨x2, x4, x5, x6, rfl, s2, hD2⟩
        obtain ⟨ar, ea, hz⟩ := map_at hbs ex
        obtain ⟨p, zs, rfl, hp, hzs⟩ := rp_tup (.inl hz)
        cases hzs with
        | cons z0 hz1 =>
          cases hz1 with
          | cons z1 hz2 =>
            cases z0
            cases z1
            cases hz2 with
            | cons z2 hz3 =>
            cases hz3 with
            | cons z3 hz4 =>
            cases hz4
            have hp2 := Same.seqT s2 hp
            have hi : i < as.length := (List.getElem?_eq_some_iff.mp ea).1
            have elen : (standS ss (as.take i)).length ≤ 13 := by
              rw [stand_len, List.length_take]
              omega
            refine ⟨_, rfl, .inl ⟨rfl, _, SqL.of hD2⟩, _, rfl, p, _, 0, _, rfl, rfl, hp2, rfl, _, rfl, p, _, 1, _, rfl, rfl, hp2, rfl, (show 2 ≤ 1000 by decide), fun l H3 n3 => ?_⟩
            have hD3 := n3.2.2 _ _ hD2
            refine ⟨D, l, _, _, rfl, rfl, hD3, n3.2.1, sz1000 (by rw [List.length_map]; simp; omega), ?_⟩
            refine ⟨_, _, _, _, rfl, fun c o e => ?_, ?_⟩
            · rw [upd_ne (ne_of_none e nD)]
              exact n3.2.2 _ _ (s2 _ _ e)
            · rw [upd_same]
              congr 2
              rw [List.take_add_one, ea]
              unfold standS
              simp
      · rintro σ H2 ⟨x2, x4, x5, x6, rfl, s2, hD2⟩
        rw [ly, List.take_length] at hD2
        have l16 : (standS ss as).length ≤ 13 := by
          rw [stand_len]
          omega
        have l1000 : ((standS ss as).map V.str).length ≤ 1000 := by
          rw [List.length_map]
          omega
        refine ⟨_, rfl, D, _, rfl, SqL.of hD2, fun D2 nD2 => lc_it walk_enum (fun i H' => Same H2 H' ∧ H' D2 = some (.lst ((((List.range i).filter (firstB (standS ss as))).map fun j => (standS ss as).getD j "").map V.str))) ⟨same_new nD2, upd_same⟩ (fun i H' _ ⟨s, _⟩ => s.seq (SqL.of hD2)) ?_ ?_⟩
        · rintro i x H3 H4 hi ⟨s3, h3⟩ ⟨T, y, z, rfl, nT, rfl, ey, ez⟩
          cases ey
          replace ez : ((standS ss as).map V.str)[i]? = some z := ez
          obtain ⟨c, ec, rfl⟩ := strs_at ez
          have hi2 : i < (standS ss as).length := (List.getElem?_eq_some_iff.mp ec).1
          have s4 : Same H3 (upd H3 T (.tup [.int (i : Nat), .str c])) := same_new nT
          have hD4 := s4 _ _ (s3 _ _ hD2)
          refine ⟨T, _, rfl, SqT.of upd_same, rfl, _, _, rfl, _, _, rfl, rfl, rfl, ?_⟩
          refine ⟨_, rfl, _, rfl, _, rfl, _, rfl, D, _, rfl, SqL.of hD4, fun p H5 n5 => ?_⟩
          rw [cut_take (by rw [List.length_map]; omega), ← List.map_take] at n5
          refine ⟨p, _, rfl, .inl (SqL.of n5.2.1), rfl, flat_strs _, _, rfl, ?_⟩
          have eg : (standS ss as).getD i "" = c := by
            rw [List.getD_eq_getElem?_getD, ec]
            rfl
          have eB : (if true = true then !inV (V.str c) (((standS ss as).take i).map V.str) else inV (V.str c) (((standS ss as).take i).map V.str)) = firstB (standS ss as) i := by
            rw [if_pos rfl, inV_strs]
            unfold firstB
            rw [eg]
          have h5 := n5.2.2 _ _ (s4 _ _ h3)
          have s25 := s3.trans (s4.trans n5.2.2)
          have hlen := ahead_len (firstB (standS ss as)) i
          cases hB : firstB (standS ss as) i with
          | true =>
            refine iteBT (eB.trans hB) ?_
            refine ⟨_, rfl, _, h5, small1000 ?_, fun q o e => ?_, ?_⟩
            · rw [List.length_map, List.length_map]
              omega
            · rw [upd_ne (ne_of_none e nD2)]
              exact s25 _ _ e
            · rw [upd_same, List.range_succ, List.filter_append, List.filter_cons, hB]
              simp only [if_true, List.filter_nil, List.map_append, List.map_cons, List.map_nil, eg]
          | false =>
            refine iteBF (eB.trans hB) ?_
            refine ⟨s25, ?_⟩
            rw [h5, List.range_succ, List.filter_append, List.filter_cons, hB]
            simp
        · rintro H3 ⟨s3, h3⟩
          rw [List.length_map] at h3
          refine ⟨D2, _, rfl, .inl ⟨SqL.of h3, fun l nl => ?_⟩⟩
          exact k l _ ((s2.trans s3).trans (same_new nl)) (SqT.of upd_same)
end
end Pg
set_option Elab.async false
set_option linter.all false
set_option maxRecDepth 100000
set_option maxHeartbeats 8000000
namespace Nu
open PySem PySem.Spec PyProof.Rows L2 TL
/-! whole numbers as texts -/
def numS (i : Int) : Str := Str.ofString (toString i)
theorem tl_neg (n : Nat) : tl (numS (Int.negSucc n)) = 45 :: numL (n + 1) := by
  unfold numS
  rw [tl_ofString]
  show ("-" ++ Nat.repr (n + 1)).toList.map Char.toNat = _
  rw [String.toList_append, List.map_append, Nat.toList_repr]
  rfl
theorem tl_pos (n : Nat) : tl (numS (Int.ofNat n)) = numL n := tl_num n
theorem num_signs (i : Int) : ∀ c ∈ tl (numS i), c = 45 ∨ (48 ≤ c ∧ c ≤ 57) := by
  intro c hc
  cases i with
  | ofNat n =>
    rw [tl_pos] at hc
    exact .inr (numL_digits n c hc)
  | negSucc n =>
    rw [tl_neg] at hc
    rcases List.mem_cons.mp hc with h | h
    · exact .inl h
    · exact .inr (numL_digits _ c h)
theorem num_free {s : Nat} (i : Int) (h : s < 45 ∨ 57 < s) : s ∉ tl (numS i) := fun hm => by
  have := num_signs i s hm
  omega
theorem num_ne (i : Int) : tl (numS i) ≠ [] := by
  cases i with
  | ofNat n =>
    rw [tl_pos]
    exact numL_ne n
  | negSucc n =>
    rw [tl_neg]
    exact fun h => by cases h
theorem num_len {i : Int} (h : -1000000 ≤ i ∧ i ≤ 1000000) : (numS i).length ≤ 8 := by
  rw [len_tl]
  cases i with
  | ofNat n =>
    rw [tl_pos]
    have h2 : Int.ofNat n = (n : Int) := rfl
    exact Nat.le_trans (numL_len (n := n) (k := 7) (by decide) (by omega)) (by decide)
  | negSucc n =>
    rw [tl_neg, List.length_cons]
    have h2 : n + 1 < 10 ^ 7 := by
      have := h.1
      omega
    have := numL_len (n := n + 1) (k := 7) (by decide) h2
    omega
theorem num_read {i : Int} (h : -1000000 ≤ i ∧ i ≤ 1000000) : intText? (numS i) = some i := by
  have hl := num_len h
  cases i with
  | ofNat n =>
    have e := PySem.intText_digits (x := numS (Int.ofNat n)) (by
      have := tl_pos n
      unfold TL.tl at this
      rw [this]
      exact numL_digits n) (num_ne _) (by omega)
    rw [e]
    have := tl_pos n
    unfold TL.tl at this
    rw [this, numL_val]
    rfl
  | negSucc n =>
    have e := PySem.intText_neg (x := numS (Int.negSucc n)) (tl_neg n) (numL_digits _) (numL_ne _) (by omega)
    rw [e, numL_val]
    rfl
theorem num_log {i : Int} (h : -1000000 ≤ i ∧ i ≤ 1000000) : i.natAbs.log2 < 1920 := by
  have h1 : i.natAbs < 2 ^ 20 := by
    have : (2 : Nat) ^ 20 = 1048576 := by decide
    omega
  by_cases h0 : i.natAbs = 0
  · rw [h0]
    decide
  · have := (Nat.log2_lt h0).mpr h1
    omega
end Nu
set_option Elab.async false
set_option linter.all false
set_option maxRecDepth 100000
set_option maxHeartbeats 8000000
namespace Pg
open PySem PySem.Spec PyProof.Rows L2 Gd Rl Te Nu
abbrev sCB : Stmt := top 44
abbrev sWd : Stmt := top 49
/-! ### _check_branches -/
theorem form_nums {m : Nat} {f : List Int} (h : formB m (fD f) = true) : f.length = m + 1 ∧ ∀ i ∈ f, -1000000 ≤ i ∧ i ≤ 1000000 := by
  have h2 : (decide ((f.map PyData.int).length = m + 1) && (f.map PyData.int).all numB) = true := h
  rw [Bool.and_eq_true, decide_eq_true_eq, List.length_map, List.all_map, List.all_eq_true] at h2
  refine ⟨h2.1, fun i hi => ?_⟩
  have h3 : (decide (-1000000 ≤ i) && decide (i ≤ 1000000)) = true := h2.2 i hi
  simpa using h3
theorem ok_ints (l : List Int) : okAll (l.map PyData.int) = true := by
  induction l with
  | nil => rfl
  | cons a l ih =>
    rw [List.map_cons, okAll, ih]
    rfl
theorem form_ok {m : Nat} (hm : m ≤ 900) {f : List Int} (h : formB m (fD f) = true) : okD (fD f) = true := by
  unfold fD
  rw [okD, ok_ints, decide_eq_true (by rw [List.length_map, (form_nums h).1]; omega)]
  rfl
theorem all_ok : ∀ {l : List PyData}, (∀ d ∈ l, okD d = true) → okAll l = true
  | [], _ => rfl
  | d :: l, h => by
    rw [okAll, h d (List.mem_cons_self ..), all_ok fun e he => h e (List.mem_cons_of_mem _ he)]
    rfl
theorem forms_ok {m : Nat} (hm : m ≤ 900) {fs : List (List Int)} (hl : fs.length ≤ 1000) (h : formsB m (.tuple (fs.map fD)) = true) : okD (.tuple (fs.map fD)) = true := by
  have h2 : (fs.map fD).all (formB m) = true := h
  rw [List.all_eq_true] at h2
  rw [okD, decide_eq_true (by rw [List.length_map]; exact hl), Bool.true_and]
  refine all_ok fun d hd => ?_
  obtain ⟨f, hf, rfl⟩ := List.mem_map.mp hd
  exact form_ok hm (h2 _ hd)
structure ArmOk (m : Nat) (a : Arm) : Prop where
  s : nameS a.src = true
  t : nameS a.tgt = true
  ts : formsB m (.tuple (a.tests.map fD)) = true
  t3 : a.tests.length ≤ 3
  cs : formsB m (.tuple (a.turns.map fD)) = true
  cm : a.turns.length = m
theorem arm_is {m : Nat} {a : Arm} : brB m (armD a) = true ↔ ArmOk m a := by
  have e : brB m (armD a) = (nameS a.src && (nameS a.tgt && ((formsB m (.tuple (a.tests.map fD)) && decide ((a.tests.map fD).length ≤ 3)) && (formsB m (.tuple (a.turns.map fD)) && decide ((a.turns.map fD).length = m))))) := rfl
  rw [e]
  simp only [Bool.and_eq_true, decide_eq_true_eq, List.length_map]
  exact ⟨fun ⟨a, b, ⟨c, d⟩, e, f⟩ => ⟨a, b, c, d, e, f⟩, fun h => ⟨h.s, h.t, ⟨h.ts, h.t3⟩, h.cs, h.cm⟩⟩
theorem ok_four {a b c d : PyData} (h1 : okD a = true) (h2 : okD b = true) (h3 : okD c = true) (h4 : okD d = true) : okD (.tuple [a, b, c, d]) = true := by
  simp only [okD, okAll, h1, h2, h3, h4]
  rfl
theorem arm_ok {m : Nat} (hm : m ≤ 900) {a : Arm} (h : ArmOk m a) : okD (armD a) = true := by
  have h1 := forms_ok hm (by have := h.t3; omega) h.ts
  have h2 := forms_ok hm (by have := h.cm; omega) h.cs
  exact ok_four (decide_eq_true (name_len h.s)) (decide_eq_true (name_len h.t)) h1 h2
structure OkA (m : Nat) (ss : List (Str × List Int)) (as : List Arm) : Prop where
  one : 1 ≤ as.length
  five : as.length ≤ 5
  arm : ∀ a ∈ as, ArmOk m a
  pl : (placesS ss as).length ≤ 3
theorem dp_take {K : PySem.W.Frag} {H : Hp} : ∀ (i : Nat) {vs : List V} {ds : List PyData}, DpAll K H vs ds → DpAll K H (vs.take i) (ds.take i)
  | 0, _, _, _ => .nil
  | i + 1, _, _, .nil => .nil
  | i + 1, _, _, .cons a b => .cons a (dp_take i b)
section
variable {P : Program} {w : World} {K : PySem.W.Frag} {mg : Str → Option Value} {base : Heap} {f : Addr} {fd : FuncData}
def spCB (K : PySem.W.Frag) : Sp := fun vs H Q _ => ∃ (v u : V) (m : Nat) (ss : List (Str × List Int)) (as : List Arm), vs = [v, .int m, u] ∧ m ≤ 900 ∧ Dp K H v (armsD as) ∧ Dp K H u (saysD ss) ∧ ss.length ≤ 3 ∧ OkA m ss as ∧ ∀ H', Same H H' → Q .non H'
theorem scCB : FnScope ["branches", "many", "sayings", "at", "branch"] ["branches", "many", "sayings"] (defScope sCB) := ⟨rfl, rfl, rfl, by decide +kernel, rfl, by decide +kernel, by decide +kernel⟩
theorem ok_cb {fI fN fF fS fB fP : Addr} {dI dN dF dS dB dP : FuncData} (F : FnP K "_check_branches" sCB f fd) (T : Mo mg) (J : Js K mg fI fN fF fS dI dN dF dS) (FB : FnP K "_is_branch" sBr fB dB) (gB : mg "_is_branch" = some (.ref fB)) (FP : FnP K "_places_of" sPl fP dP) (gP : mg "_places_of" = some (.ref fP)) : FnOk P w K mg base CX0 6 f fd ["branches", "many", "sayings"] (spCB K) := by
  have GB : FnOk P w K mg base CX0 5 fB dB ["value", "many"] (spJ2 K brB) := ok_br FB T J
  have GP : FnOk P w K mg base CX0 1 fP dP ["sayings", "branches"] (spPl K) := ok_pl FP T
  have bB : Binds K dB ["value", "many"] [] := FB.bindsN fun _ _ _ _ _ _ us hl => match us, hl with | [_, _], _ => rfl
  have bP : Binds K dP ["sayings", "branches"] [] := FP.bindsN fun _ _ _ _ _ _ us hl => match us, hl with | [_, _], _ => rfl
  obtain ⟨t1, c1⟩ := T.mbra
  obtain ⟨t2, c2⟩ := T.mpla
  refine F.ok scCB (fun vs H Q E h => ?_) (fun cdv A outer s H vs Q E hr h => ?_)
  · obtain ⟨v, u, m, ss, as, rfl, _⟩ := h
    rfl
  · obtain ⟨v, u, m, ss, as, rfl, hm, hv, hu, l3, ok, k⟩ := h
    have hr1 := hr.mono (show 1 ≤ 5 by decide)
    refine ⟨_, PSs.nox <| pss_cons (ps_if (PW.pt (pw_or (pt_not (pt_val (pe_callB (call_isD (T := "tuple")) (by rfl) T.isi boot_isinstance (pa_cons (pv 0) (pa_cons (pe_bltn (v := .ty "tuple") (by rfl) T.tuple (by decide +kernel) rfl) pa_nil)))))
        (pw_or1 (pt_not (pt_truth (pv 0) (by intro _; rfl)))))) (pss_one ps_never) pss_nil)
      <| pss_one (ps_for PassesOwn.never rfl (pi_enumT (by rfl) T.enum (pa_cons (pv 0) pa_nil)) (pg_tup (by rfl) (pgs_cons (pg_name (i := 3) scCB.nd rfl (.inl rfl)) (pgs_cons (pg_name (i := 4) scCB.nd rfl (.inl rfl)) pgs_nil)))
          (pss_cons (ps_if (PW.pt (pw_or (pt_cmpR op_ge (pv 3) (pe_glob (v := .int 5) (by rfl) c1 ⟨_, rfl⟩) (nomark _))
            (pw_or1 (pt_not (pt_val (pe_call GB hr (by rfl) gB FB.kp bB .nil pass0 (pa_cons (pv 4) (pa_cons (pv 1) pa_nil)))))))) (pss_one ps_never) pss_nil)
          <| pss_one (ps_if (pt_cmpR op_gt (pe_callB call_len (by rfl) T.len PySem.boot_len (pa_cons (pe_call GP hr1 (by rfl) gP FP.kp bP .nil pass0 (pa_cons (pv 2) (pa_cons (pe_slice (r := rSlTR K) sl_tupR (pv 0) po_none (po_some (pe_op op_add (pv 3) pe_int))) pa_nil))) pa_nil)) (pe_glob (v := .int 3) (by rfl) c2 ⟨_, rfl⟩) (nomark _)) (pss_one ps_never) pss_nil))), ?_⟩
    obtain ⟨a, xs, rfl, hs, ha⟩ := rp_tup (.inl hv)
    have lx := dp_len ha
    rw [List.length_map] at lx
    refine ⟨_, rfl, _, _, _, rfl, .inl hv, kit_tuple _, _, rfl, ?_⟩
    refine iteF ?_
    refine ⟨_, rfl, true, .inr (.inl ⟨_, hs, ?_⟩), ?_⟩
    · have h1 := ok.one
      cases xs with
      | nil =>
        rw [← lx] at h1
        exact absurd h1 (by decide)
      | cons n ns => rfl
    refine iteF ?_
    refine ⟨_, rfl, a, _, rfl, hs, for_it walk_enumT (fun i σ H' => ∃ x1 x2, σ = [some (.ref a), some (.int m), some u, x1, x2] ∧ Same H H') ⟨_, _, rfl, Same.refl H⟩ (fun i σ H' _ ⟨_, _, _, s⟩ => Same.seqT s hs) ?_ ?_⟩
    · rintro i x σ H1 H2 hi ⟨x1, x2, rfl, s1⟩ ⟨T, y, z, rfl, nT, rfl, ey, ez⟩
      cases ey
      obtain ⟨ar, ea, hz⟩ := map_at ha ez
      have har := ok.arm ar (List.mem_of_getElem? ea)
      have s2 : Same H (upd H1 T (.tup [.int (i : Nat), z])) := s1.trans (same_new nT)
      refine ⟨T, _, rfl, SqT.of upd_same, rfl, _, _, rfl, _, _, rfl, rfl, ?_⟩
      refine ⟨_, rfl, _, _, rfl, rfl, _, rfl, ?_⟩
      have h5 := ok.five
      refine iteDN (by omega) ?_
      refine ⟨_, rfl, _, rfl, z, armD ar, m, rfl, .inl (dp_same s2 _ hz), arm_ok hm har, fun H3 s3 => ⟨_, rfl, ?_⟩⟩
      refine iteBF (notT (arm_is.mpr har)) ?_
      have s13 := s2.trans s3
      refine ⟨_, rfl, _, rfl, _, rfl, _, _, rfl, rfl, _, rfl, a, _, rfl, Same.seqT s13 hs, fun p H4 s4 hp => ?_⟩
      rw [show ((i : Int) + 1) = ((i + 1 : Nat) : Int) from rfl, cut_take (by omega)] at hp
      have s14 := s13.trans s4
      have hA : Dp K H4 (.ref p) (armsD (as.take (i + 1))) := by
        unfold armsD
        rw [List.map_take]
        exact .tup hp (dp_take (i + 1) (dp_sameAll s14 _ ha))
      refine ⟨u, .ref p, ss, as.take (i + 1), rfl, dp_same s14 _ hu, hA, l3, by rw [List.length_take]; omega, fun q H5 s5 hq => ?_⟩
      refine ⟨_, _, rfl, .inr ⟨_, hq, rfl⟩, _, _, rfl, rfl, _, rfl, ?_⟩
      have hp3 := places_take ss as (i + 1)
      have h3 := ok.pl
      refine iteDN (by rw [List.length_map]; omega) ?_
      exact ⟨_, _, rfl, s14.trans s5⟩
    · rintro σ H' ⟨x1, x2, rfl, s1⟩
      exact k H' s1
/-! ### _words_of -/
def wordsS (f : List Int) : Str := Txt.join " " (f.map numS)
structure OkF (f : List Int) : Prop where
  four : f.length ≤ 4
  nums : ∀ i ∈ f, -1000000 ≤ i ∧ i ≤ 1000000
def spWd (K : PySem.W.Frag) : Sp := fun vs H Q _ => ∃ (v : V) (f : List Int), vs = [v] ∧ Dp K H v (fD f) ∧ OkF f ∧ ∀ H', Same H H' → Q (.str (wordsS f)) H'
theorem scWd : FnScope ["form", "number"] ["form"] (defScope sWd) := ⟨rfl, rfl, rfl, by decide +kernel, rfl, by decide +kernel, by decide +kernel⟩
theorem sum_le {l : List Nat} {b : Nat} (h : ∀ x ∈ l, x ≤ b) : l.sum ≤ l.length * b := by
  induction l with
  | nil => simp
  | cons a l ih =>
    rw [List.sum_cons, List.length_cons, Nat.succ_mul]
    have h1 := h a (List.mem_cons_self ..)
    have h2 := ih fun x hx => h x (List.mem_cons_of_mem _ hx)
    omega
theorem words_sum {f : List Int} (ok : OkF f) : ((f.map numS).map (·.length)).sum ≤ 32 := by
  have h := sum_le (l := (f.map numS).map (·.length)) (b := 8) (fun x hx => by
    obtain ⟨y, hy, rfl⟩ := List.mem_map.mp hx
    obtain ⟨i, hi, rfl⟩ := List.mem_map.mp hy
    exact num_len (ok.nums i hi))
  rw [List.length_map, List.length_map] at h
  have := ok.four
  omega
theorem ok_wd (F : FnP K "_words_of" sWd f fd) (T : Mo mg) : FnOk P w K mg base CX0 1 f fd ["form"] (spWd K) := by
  refine F.ok scWd (fun vs H Q E h => ?_) (fun cdv A outer s H vs Q E hr h => ?_)
  · obtain ⟨v, d, rfl, _⟩ := h
    rfl
  · obtain ⟨v, fo, rfl, hd, ok, k⟩ := h
    refine ⟨_, PSs.nox <| pss_one (ps_ret (pe_join pe_str (pe_lc (own := [("number", 1)]) (g := gName 1) (tt := tYes) rfl scWd.nd (pi_tup (pv 0)) (blkOk_by (N := ["form", "number"]) (sc := defScope sWd) (by decide +kernel)) (fun _ _ _ _ _ => pg_name (i := 1) scWd.nd rfl (Or.inl rfl)) (fun _ _ _ _ _ => pts_nil)
          (fun _ _ _ _ _ => pe_callTy call_str_int (by rfl) T.str (by decide +kernel) (pa_cons (pv 1) pa_nil))))), ?_⟩
    obtain ⟨a, xs, rfl, hs, ha⟩ := rp_tup (.inl hd)
    have lx := dp_len ha
    rw [List.length_map] at lx
    have h4 := ok.four
    refine ⟨⟨_, rfl⟩, _, rfl, a, rfl, ⟨_, hs⟩, lcR (walk_tup (xs := xs)) (n1 := by omega) (fun H' s' => Same.seqT s' hs) (fun i y _ => ∃ s, fo[i]? = some s ∧ y = .str (numS s)) (fun _ _ _ _ _ e => e) ?_ ?_⟩
    · rintro D acc i x Ha Hb K2 hi s nD hD ⟨rfl, ex⟩ kk
      obtain ⟨n, en, hz⟩ := map_at ha ex
      cases hz
      have hn := ok.nums n (List.mem_of_getElem? en)
      exact ⟨rfl, _, rfl, n, rfl, num_log hn, kk _ _ (Same.refl _) ⟨n, en, rfl⟩⟩
    · rintro D H1 zs nw hlen he
      have ez : zs = (fo.map numS).map V.str := by
        rw [List.map_map]
        exact list_is (by rw [hlen, lx]) he
      subst ez
      refine ⟨_, D, fo.map numS, rfl, rfl, .inl (SqL.of nw.2.1), ?_, k H1 nw.2.2⟩
      have := words_sum ok
      have e1 : (" " : Str).length = 1 := by decide +kernel
      rw [e1, List.length_map]
      omega
end
end Pg
set_option Elab.async false
set_option linter.all false
set_option maxRecDepth 100000
set_option maxHeartbeats 8000000
namespace Pg
open PySem PySem.Spec PyProof.Rows L2 Gd Rl Te Nu TL
abbrev sTx : Stmt := top 48
/-! ### the text -/
def lineV (ns : List Str) : Str := Txt.join " " ("vars" :: ns)
def lineS (s : Str × List Int) : Str := Str.empty ++ "say " ++ s.1 ++ " " ++ wordsS s.2
def lineB (a : Arm) : Str := Str.empty ++ "branch " ++ a.src ++ " " ++ a.tgt
def lineT (t : List Int) : Str := Str.empty ++ "test " ++ wordsS t
def lineE (a : Arm) : Str := "then " ++ Txt.join "; " (a.turns.map wordsS)
def armL (a : Arm) : List Str := lineB a :: (a.tests.map lineT ++ [lineE a])
def linesS (ns : List Str) (ss : List (Str × List Int)) (as : List Arm) : List Str := lineV ns :: (ss.map lineS ++ (as.map armL).flatten)
def textS (ns : List Str) (ss : List (Str × List Int)) (as : List Arm) : Str := Txt.join "\n" (linesS ns ss as)
/-! ### how long -/
theorem len_app (x y : Str) : (x ++ y).length = x.length + y.length := by
  rw [len_tl, tl_append, List.length_append, ← len_tl, ← len_tl]
theorem joinS_len (y : Str) : ∀ ps : List Str, (Str.join y ps).length ≤ (ps.map (·.length)).sum + ps.length * y.length
  | [] => Nat.zero_le _
  | [p] => by
    show p.length ≤ _
    simp
  | p :: q :: r => by
    have ih := joinS_len y (q :: r)
    have e : Str.join y (p :: q :: r) = p ++ y ++ Str.join y (q :: r) := rfl
    rw [e, len_app, len_app, List.map_cons, List.sum_cons, List.length_cons, Nat.succ_mul]
    omega
theorem join_len (y : Str) (ps : List Str) : (Txt.join y ps).length ≤ (ps.map (·.length)).sum + ps.length * y.length := by
  rw [join_eq]
  exact joinS_len y ps
theorem words_len {f : List Int} (ok : OkF f) : (wordsS f).length ≤ 36 := by
  have h := join_len " " (f.map numS)
  have h1 := words_sum ok
  have h2 := ok.four
  have e1 : (" " : Str).length = 1 := by decide +kernel
  rw [e1, List.length_map] at h
  unfold wordsS
  omega
theorem okF_of {m : Nat} (hm : m ≤ 3) {f : List Int} (h : formB m (fD f) = true) : OkF f := ⟨by rw [(form_nums h).1]; omega, (form_nums h).2⟩
theorem name_len8 {z : Str} (h : nameS z = true) : z.length ≤ 8 := by
  have lz : z.length = z.cps.toList.length := by
    rw [Array.length_toList]
    rfl
  unfold nameS at h
  rw [lz]
  cases e : z.cps.toList with
  | nil => exact Nat.zero_le _
  | cons c r =>
    rw [e] at h
    simp only [Bool.and_eq_true, decide_eq_true_eq] at h
    exact h.1
theorem say_parts {m : Nat} {s : Str × List Int} (h : sayB m (sayD s) = true) : nameS s.1 = true ∧ formB m (fD s.2) = true := by
  have h1 : (nameS s.1 && formB m (fD s.2)) = true := h
  simpa using h1
theorem forms_each {m : Nat} {fs : List (List Int)} (h : formsB m (.tuple (fs.map fD)) = true) : ∀ f ∈ fs, formB m (fD f) = true := by
  have h2 : (fs.map fD).all (formB m) = true := h
  rw [List.all_eq_true] at h2
  exact fun f hf => h2 _ (List.mem_map_of_mem hf)
theorem size1000 {n : Nat} (h : n ≤ 1000) : n ≤ 16777216 := by omega
theorem sum_map_le {α : Type} {l : List α} {g : α → Str} {b : Nat} (h : ∀ x ∈ l, (g x).length ≤ b) : ((l.map g).map (·.length)).sum ≤ l.length * b := by
  have q := sum_le (l := (l.map g).map (·.length)) (b := b) (fun x hx => by
    obtain ⟨y, hy, rfl⟩ := List.mem_map.mp hx
    obtain ⟨i, hi, rfl⟩ := List.mem_map.mp hy
    exact h i hi)
  rw [List.length_map, List.length_map] at q
  exact q
theorem lineV_sum {ns : List Str} (ok : OkN ns) : ((("vars" : Str) :: ns).map (·.length)).sum ≤ 28 := by
  have h := sum_map_le (l := ns) (g := id) (b := 8) fun z hz => name_len8 (ok.nm z hz)
  rw [List.map_id] at h
  rw [List.map_cons, List.sum_cons, show ("vars" : Str).length = 4 by decide +kernel]
  have := ok.three
  omega
theorem lineV_len {ns : List Str} (ok : OkN ns) : (lineV ns).length ≤ 32 := by
  have h := join_len " " ("vars" :: ns)
  have h1 := lineV_sum ok
  have h2 := ok.three
  rw [show (" " : Str).length = 1 by decide +kernel, List.length_cons] at h
  unfold lineV
  omega
theorem e0 : Str.empty.length = 0 := by decide +kernel
theorem lineS_len {m : Nat} (hm : m ≤ 3) {s : Str × List Int} (h : sayB m (sayD s) = true) : (lineS s).length ≤ 50 := by
  obtain ⟨h1, h2⟩ := say_parts h
  unfold lineS
  rw [len_app, len_app, len_app, len_app, e0, show ("say " : Str).length = 4 by decide +kernel, show (" " : Str).length = 1 by decide +kernel]
  have := name_len8 h1
  have := words_len (okF_of hm h2)
  omega
theorem lineB_len {m : Nat} {a : Arm} (h : ArmOk m a) : (lineB a).length ≤ 50 := by
  unfold lineB
  rw [len_app, len_app, len_app, len_app, e0, show ("branch " : Str).length = 7 by decide +kernel, show (" " : Str).length = 1 by decide +kernel]
  have := name_len8 h.s
  have := name_len8 h.t
  omega
theorem lineT_len {t : List Int} (h : OkF t) : (lineT t).length ≤ 50 := by
  unfold lineT
  rw [len_app, len_app, e0, show ("test " : Str).length = 5 by decide +kernel]
  have := words_len h
  omega
theorem turns_sum {m : Nat} (hm : m ≤ 3) {a : Arm} (h : ArmOk m a) : ((a.turns.map wordsS).map (·.length)).sum ≤ 108 := by
  have q := sum_map_le (l := a.turns) (g := wordsS) (b := 36) fun f hf => words_len (okF_of hm (forms_each h.cs f hf))
  have := h.cm
  omega
theorem turns_len {m : Nat} (hm : m ≤ 3) {a : Arm} (h : ArmOk m a) : (Txt.join "; " (a.turns.map wordsS)).length ≤ 114 := by
  have q := join_len "; " (a.turns.map wordsS)
  have h1 := turns_sum hm h
  have h2 := h.cm
  rw [show ("; " : Str).length = 2 by decide +kernel, List.length_map] at q
  omega
theorem lineE_len {m : Nat} (hm : m ≤ 3) {a : Arm} (h : ArmOk m a) : (lineE a).length ≤ 119 := by
  unfold lineE
  rw [len_app, show ("then " : Str).length = 5 by decide +kernel]
  have := turns_len hm h
  omega
theorem armL_len {m : Nat} {a : Arm} (h : ArmOk m a) : (armL a).length ≤ 5 := by
  unfold armL
  rw [List.length_cons, List.length_append, List.length_map]
  have := h.t3
  show a.tests.length + 1 + 1 ≤ 5
  omega
theorem flat_len {α β : Type} {l : List α} {g : α → List β} {b : Nat} (h : ∀ x ∈ l, (g x).length ≤ b) : ((l.map g).flatten).length ≤ l.length * b := by
  rw [List.length_flatten]
  have q := sum_le (l := (l.map g).map List.length) (b := b) (fun x hx => by
    obtain ⟨y, hy, rfl⟩ := List.mem_map.mp hx
    obtain ⟨i, hi, rfl⟩ := List.mem_map.mp hy
    exact h i hi)
  rw [List.length_map, List.length_map] at q
  exact q
structure OkT (m : Nat) (ns : List Str) (ss : List (Str × List Int)) (as : List Arm) : Prop where
  m3 : m ≤ 3
  n : OkN ns
  s : OkS m ss
  a5 : as.length ≤ 5
  arm : ∀ a ∈ as, ArmOk m a
theorem lines_len {m : Nat} {ns : List Str} {ss : List (Str × List Int)} {as : List Arm} (ok : OkT m ns ss as) : (linesS ns ss as).length ≤ 29 := by
  unfold linesS
  rw [List.length_cons, List.length_append, List.length_map]
  have h := flat_len (l := as) (g := armL) (b := 5) fun a ha => armL_len (ok.arm a ha)
  have := ok.a5
  have := ok.s.three
  omega
theorem lines_each {m : Nat} {ns : List Str} {ss : List (Str × List Int)} {as : List Arm} (ok : OkT m ns ss as) : ∀ z ∈ linesS ns ss as, z.length ≤ 119 := by
  intro z hz
  unfold linesS at hz
  rcases List.mem_cons.mp hz with rfl | hz
  · exact Nat.le_trans (lineV_len ok.n) (by decide)
  rcases List.mem_append.mp hz with hz | hz
  · obtain ⟨s, hs, rfl⟩ := List.mem_map.mp hz
    exact Nat.le_trans (lineS_len ok.m3 (ok.s.sy s hs)) (by decide)
  · obtain ⟨l, hl, hz⟩ := List.mem_flatten.mp hz
    obtain ⟨a, ha, rfl⟩ := List.mem_map.mp hl
    have hA := ok.arm a ha
    unfold armL at hz
    rcases List.mem_cons.mp hz with rfl | hz
    · exact Nat.le_trans (lineB_len hA) (by decide)
    rcases List.mem_append.mp hz with hz | hz
    · obtain ⟨t, ht, rfl⟩ := List.mem_map.mp hz
      exact Nat.le_trans (lineT_len (okF_of ok.m3 (forms_each hA.ts t ht))) (by decide)
    · rw [List.mem_singleton.mp hz]
      exact lineE_len ok.m3 hA
theorem lines_sum {m : Nat} {ns : List Str} {ss : List (Str × List Int)} {as : List Arm} (ok : OkT m ns ss as) : ((linesS ns ss as).map (·.length)).sum ≤ 3451 := by
  have h := sum_map_le (l := linesS ns ss as) (g := id) (b := 119) (lines_each ok)
  rw [List.map_id] at h
  have := lines_len ok
  omega
theorem text_len {m : Nat} {ns : List Str} {ss : List (Str × List Int)} {as : List Arm} (ok : OkT m ns ss as) : (textS ns ss as).length ≤ 3480 := by
  have h := join_len "\n" (linesS ns ss as)
  have h1 := lines_sum ok
  have h2 := lines_len ok
  rw [show ("\n" : Str).length = 1 by decide +kernel] at h
  unfold textS
  omega
end Pg
set_option Elab.async false
set_option linter.all false
set_option maxRecDepth 100000
set_option maxHeartbeats 8000000
namespace Pg
open PySem PySem.Spec PyProof.Rows L2 Gd Rl Te Nu TL
theorem sz9 {n : Nat} (h : n ≤ 1000) : n ≤ sizeLine := sz1000 h
section
variable {P : Program} {w : World} {K : PySem.W.Frag} {mg : Str → Option Value} {base : Heap} {f : Addr} {fd : FuncData}
def spTx (K : PySem.W.Frag) : Sp := fun vs H Q _ => ∃ (u v z : V) (m : Nat) (ns : List Str) (ss : List (Str × List Int)) (as : List Arm), vs = [u, v, z] ∧ Dp K H u (namesD ns) ∧ Dp K H v (saysD ss) ∧ Dp K H z (armsD as) ∧ OkT m ns ss as ∧ ∀ H', Same H H' → Q (.str (textS ns ss as)) H'
abbrev nTx : List Str := ["names", "sayings", "branches", "lines", "place", "form", "source", "target", "tests", "changes", "test", "change"]
theorem scTx : FnScope nTx ["names", "sayings", "branches"] (defScope sTx) := ⟨rfl, rfl, rfl, by decide +kernel, rfl, by decide +kernel, by decide +kernel⟩
theorem put_str {L : List Str} {y : Str} : (L.map V.str) ++ [V.str y] = (L ++ [y]).map V.str := by
  rw [List.map_append]
  rfl
theorem none_of_same {H H1 : Hp} {l : Addr} (s : Same H H1) (n : H1 l = none) : H l = none := by
  cases e : H l with
  | none => rfl
  | some o =>
    have := s _ _ e
    rw [n] at this
    cases this
/-- the lines so far at l, all else as it stood at H -/
structure Grow (H : Hp) (l : Addr) (L : List Str) (H' : Hp) : Prop where
  n : H l = none
  s : Same H H'
  e : H' l = some (.lst (L.map V.str))
theorem Grow.keep {H H1 H2 : Hp} {l : Addr} {L : List Str} (g : Grow H l L H1) (s : Same H1 H2) : Grow H l L H2 := ⟨g.n, g.s.trans s, s _ _ g.e⟩
theorem Grow.put {H H1 : Hp} {l : Addr} {L : List Str} (g : Grow H l L H1) (y : Str) : Grow H l (L ++ [y]) (upd H1 l (.lst ((L.map V.str) ++ [V.str y]))) :=
  ⟨g.n, fun b o e => by
    rw [upd_ne (ne_of_none e g.n)]
    exact g.s _ _ e, by rw [upd_same, put_str]⟩
theorem ok_tx {fW : Addr} {dW : FuncData} (F : FnP K "_text_of" sTx f fd) (T : Mo mg) (FW : FnP K "_words_of" sWd fW dW) (gW : mg "_words_of" = some (.ref fW)) : FnOk P w K mg base CX0 2 f fd ["names", "sayings", "branches"] (spTx K) := by
  have GW : FnOk P w K mg base CX0 1 fW dW ["form"] (spWd K) := ok_wd FW T
  have bW : Binds K dW ["form"] [] := FW.bindsN fun _ _ _ _ _ _ us hl => match us, hl with | [_], _ => rfl
  refine F.ok scTx (fun vs H Q E h => ?_) (fun cdv A outer s H vs Q E hr h => ?_)
  · obtain ⟨u, v, z, m, ns, ss, as, rfl, _⟩ := h
    rfl
  · obtain ⟨u, v, z, m, ns, ss, as, rfl, hu, hv, hz, ok, k⟩ := h
    refine ⟨_, PSs.nox <| pss_cons (ps_set (i := 3) scTx.nd rfl (.inl rfl) (pe_lstR (pa_cons (pe_join pe_str (pe_lstR (pa_cons pe_str (StX.pa_star (pv 0) pa_nil)))) pa_nil)))
      <| pss_cons (ps_for PassesOwn.never rfl (pi_tup (pv 1)) (pg_tup (by rfl) (pgs_cons (pg_name (i := 4) scTx.nd rfl (.inl rfl)) (pgs_cons (pg_name (i := 5) scTx.nd rfl (.inl rfl)) pgs_nil)))
          (pss_one (ps_expr (pe_bm PySem.F.plainAttrs_list PySem.F.slot_list_append PySem.F.type_list_append mt_append (pv 3) (pa_cons (pe_joined (.cons pe_str <| .cons (pe_fmt (pv 4)) <| .cons pe_str <| .cons (pe_fmt (pe_call GW hr (by rfl) gW FW.kp bW .nil pass0 (pa_cons (pv 5) pa_nil))) .nil)) pa_nil)))))
      <| pss_cons (ps_for PassesOwn.never rfl (pi_tup (pv 2)) (pg_tup (by rfl) (pgs_cons (pg_name (i := 6) scTx.nd rfl (.inl rfl)) (pgs_cons (pg_name (i := 7) scTx.nd rfl (.inl rfl)) (pgs_cons (pg_name (i := 8) scTx.nd rfl (.inl rfl)) (pgs_cons (pg_name (i := 9) scTx.nd rfl (.inl rfl)) pgs_nil)))))
          (pss_cons (ps_expr (pe_bm PySem.F.plainAttrs_list PySem.F.slot_list_append PySem.F.type_list_append mt_append (pv 3) (pa_cons (pe_joined (.cons pe_str <| .cons (pe_fmt (pv 6)) <| .cons pe_str <| .cons (pe_fmt (pv 7)) .nil)) pa_nil)))
          <| pss_cons (ps_for PassesOwn.never rfl (pi_tup (pv 8)) (pg_name (i := 10) scTx.nd rfl (.inl rfl))
              (pss_one (ps_expr (pe_bm PySem.F.plainAttrs_list PySem.F.slot_list_append PySem.F.type_list_append mt_append (pv 3) (pa_cons (pe_joined (.cons pe_str <| .cons (pe_fmt (pe_call GW hr (by rfl) gW FW.kp bW .nil pass0 (pa_cons (pv 10) pa_nil))) .nil)) pa_nil)))))
          <| pss_one (ps_expr (pe_bm PySem.F.plainAttrs_list PySem.F.slot_list_append PySem.F.type_list_append mt_append (pv 3) (pa_cons (pe_op op_add_str pe_str (pe_join pe_str (pe_lc (own := [("change", 11)]) (g := gName 11) (tt := tYes) rfl scTx.nd (pi_tup (pv 9)) (blkOk_by (N := nTx) (sc := defScope sTx) (by decide +kernel)) (fun _ _ _ _ _ => pg_name (i := 11) scTx.nd rfl (Or.inl rfl)) (fun _ _ _ _ _ => pts_nil)
              (fun _ _ _ _ _ => pe_call GW hr (by rfl) gW FW.kp bW .nil pass0 (pa_cons (pv 11) pa_nil))))) pa_nil)))))
      <| pss_one (ps_ret (pe_join pe_str (pv 3))), ?_⟩
    obtain ⟨a, xs, rfl, hs, ha⟩ := rp_tup (.inl hu)
    have ex := dp_strs ha
    subst ex
    obtain ⟨b, ys, rfl, hb, hbs⟩ := rp_tup (.inl hv)
    obtain ⟨c, zs, rfl, hc, hcs⟩ := rp_tup (.inl hz)
    have ly := dp_len hbs
    have lz := dp_len hcs
    rw [List.length_map] at ly lz
    have n3 := ok.n.three
    have s3 := ok.s.three
    have a5 := ok.a5
    refine ⟨⟨_, rfl⟩, _, rfl, a, _, rfl, .inl hs, ?_⟩
    have hl1 : (V.str "vars" :: (ns.map V.str ++ [])).length ≤ 1000 := by
      rw [List.append_nil, List.length_cons, List.length_map]
      omega
    refine ⟨hl1, fun l1 H1 n1 => ?_⟩
    refine ⟨_, l1, "vars" :: ns, rfl, rfl, .inl (SqL.of ?_), ?_, (show 1 ≤ 1000 by decide), fun l H2 n2 => ?_⟩
    · rw [n1.2.1]
      simp
    · have := lineV_sum ok.n
      rw [show (" " : Str).length = 1 by decide +kernel, List.length_cons]
      omega
    have g2 : Grow H l [lineV ns] H2 := ⟨none_of_same n1.2.2 n2.1, n1.2.2.trans n2.2.2, n2.2.1⟩
    refine ⟨_, rfl, b, rfl, ⟨_, Same.seqT g2.s hb⟩, for_tup (Pv := fun i σ H' => ∃ x4 x5 x6 x7 x8 x9 x10 x11, σ = [some (.ref a), some (.ref b), some (.ref c), some (.ref l), x4, x5, x6, x7, x8, x9, x10, x11] ∧ Grow H l (lineV ns :: (ss.take i).map lineS) H') ⟨_, _, _, _, _, _, _, _, rfl, g2⟩ (fun i σ H' _ ⟨_, _, _, _, _, _, _, _, _, g⟩ => Same.seqT g.s hb) ?_ ?_⟩
    · rintro i x σ H3 ex ⟨x4, x5, x6, x7, x8, x9, x10, x11, rfl, g3⟩
      obtain ⟨sy, es, hx⟩ := map_at hbs ex
      have hsy := ok.s.sy sy (List.mem_of_getElem? es)
      obtain ⟨p, ws, rfl, hp, hws⟩ := rp_tup (.inl hx)
      cases hws with
      | @cons w0 _ _ _ z0 hw1 =>
      cases hw1 with
      | @cons w1 _ _ _ z1 hw2 =>
      cases hw2
      cases z0
      obtain ⟨k1, k2⟩ := say_parts hsy
      have hlen := lineS_len ok.m3 hsy
      have l8 := name_len8 k1
      have lw := words_len (okF_of ok.m3 k2)
      unfold lineS at hlen
      have p1 : (Str.empty ++ "say " : Str).length ≤ sizeLine := by decide +kernel
      have p2 : (Str.empty ++ "say " ++ sy.1 : Str).length ≤ sizeLine := sz9 (by rw [len_app, len_app, e0, show ("say " : Str).length = 4 by decide +kernel]; omega)
      have p3 : (Str.empty ++ "say " ++ sy.1 ++ " " : Str).length ≤ sizeLine := sz9 (by rw [len_app, len_app, len_app, e0, show ("say " : Str).length = 4 by decide +kernel, show (" " : Str).length = 1 by decide +kernel]; omega)
      refine ⟨p, _, rfl, Same.seqT g3.s hp, rfl, _, _, rfl, _, _, rfl, rfl, ?_⟩
      refine ⟨_, rfl, .inl ⟨rfl, _, SqL.of g3.e⟩, _, rfl, p1, _, rfl, .inl ⟨_, rfl, sz9 (by omega), _, rfl, p2, _, rfl, p3, _, rfl, w1, sy.2, rfl, dp_same g3.s _ z1, okF_of ok.m3 k2, fun H4 s4 => .inl ⟨_, rfl, sz9 (by omega), _, rfl, sz9 (by omega), ?_⟩⟩⟩
      have g4 := g3.keep s4
      refine ⟨l, _, _, rfl, rfl, g4.e, small1000 (by rw [List.length_map, List.length_cons, List.length_map, List.length_take]; omega), ?_⟩
      refine ⟨_, _, _, _, _, _, _, _, rfl, ?_⟩
      have g5 := g4.put (lineS sy)
      have e5 : lineV ns :: (ss.take i).map lineS ++ [lineS sy] = lineV ns :: (ss.take (i + 1)).map lineS := by
        rw [List.take_add_one, es, List.cons_append]
        simp
      rw [e5] at g5
      exact g5
    · rintro σ H3 ⟨x4, x5, x6, x7, x8, x9, x10, x11, rfl, g3⟩
      rw [ly, List.take_length] at g3
      refine ⟨_, rfl, c, rfl, ⟨_, Same.seqT g3.s hc⟩, for_tup (Pv := fun i σ H' => ∃ x4 x5 x6 x7 x8 x9 x10 x11, σ = [some (.ref a), some (.ref b), some (.ref c), some (.ref l), x4, x5, x6, x7, x8, x9, x10, x11] ∧ Grow H l (linesS ns ss (as.take i)) H') ⟨_, _, _, _, _, _, _, _, rfl, ?_⟩ (fun i σ H' _ ⟨_, _, _, _, _, _, _, _, _, g⟩ => Same.seqT g.s hc) ?_ ?_⟩
      · have e6 : linesS ns ss (as.take 0) = lineV ns :: ss.map lineS := by
          unfold linesS
          simp
        rw [e6]
        exact g3
      · rintro i x σ H4 ex ⟨x4, x5, x6, x7, x8, x9, x10, x11, rfl, g4⟩
        obtain ⟨ar, ea, hx⟩ := map_at hcs ex
        have har := ok.arm ar (List.mem_of_getElem? ea)
        obtain ⟨p, ws, rfl, hp, hws⟩ := rp_tup (.inl hx)
        cases hws with
        | @cons w0 _ _ _ z0 hw1 =>
        cases hw1 with
        | @cons w1 _ _ _ z1 hw2 =>
        cases hw2 with
        | @cons w2 _ _ _ z2 hw3 =>
        cases hw3 with
        | @cons w3 _ _ _ z3 hw4 =>
        cases hw4
        cases z0
        cases z1
        have hlen := lineB_len har
        have l8 := name_len8 har.s
        have l9 := name_len8 har.t
        unfold lineB at hlen
        have okI : OkT m ns ss (as.take i) := ⟨ok.m3, ok.n, ok.s, by rw [List.length_take]; omega, fun a ha => ok.arm a (List.mem_of_mem_take ha)⟩
        have lI := lines_len okI
        have p1 : (Str.empty ++ "branch " : Str).length ≤ sizeLine := by decide +kernel
        have p2 : (Str.empty ++ "branch " ++ ar.src : Str).length ≤ sizeLine := sz9 (by rw [len_app, len_app, e0, show ("branch " : Str).length = 7 by decide +kernel]; omega)
        have p3 : (Str.empty ++ "branch " ++ ar.src ++ " " : Str).length ≤ sizeLine := sz9 (by rw [len_app, len_app, len_app, e0, show ("branch " : Str).length = 7 by decide +kernel, show (" " : Str).length = 1 by decide +kernel]; omega)
        refine ⟨p, _, rfl, Same.seqT g4.s hp, rfl, _, _, rfl, _, _, rfl, _, _, rfl, _, _, rfl, rfl, ?_⟩
        refine ⟨_, rfl, .inl ⟨rfl, _, SqL.of g4.e⟩, _, rfl, p1, _, rfl, .inl ⟨_, rfl, sz9 (by omega), _, rfl, p2, _, rfl, p3, _, rfl, .inl ⟨_, rfl, sz9 (by omega), _, rfl, sz9 (by omega), ?_⟩⟩⟩
        refine ⟨l, _, _, rfl, rfl, g4.e, small1000 (by rw [List.length_map]; omega), ?_⟩
        have g5 := g4.put (lineB ar)
        obtain ⟨d, ts, rfl, hd, hds⟩ := rp_tup (.inl z2)
        obtain ⟨q, cs, rfl, hq, hqs⟩ := rp_tup (.inl z3)
        have lt := dp_len hds
        have lc := dp_len hqs
        rw [List.length_map] at lt lc
        have t3 := har.t3
        have cm := har.cm
        have m3 := ok.m3
        refine ⟨_, rfl, d, rfl, ⟨_, Same.seqT g5.s hd⟩, for_tup (Pv := fun j σ H' => ∃ x10 x11, σ = [some (.ref a), some (.ref b), some (.ref c), some (.ref l), x4, x5, some (.str ar.src), some (.str ar.tgt), some (.ref d), some (.ref q), x10, x11] ∧ Grow H l (linesS ns ss (as.take i) ++ lineB ar :: (ar.tests.take j).map lineT) H') ⟨_, _, rfl, g5⟩ (fun j σ H' _ ⟨_, _, _, g⟩ => Same.seqT g.s hd) ?_ ?_⟩
        · rintro j x σ H6 ex ⟨x10, x11, rfl, g6⟩
          obtain ⟨te, et, hx⟩ := map_at hds ex
          have hte := okF_of ok.m3 (forms_each har.ts te (List.mem_of_getElem? et))
          have hlt := lineT_len hte
          have lw := words_len hte
          unfold lineT at hlt
          have p4 : (Str.empty ++ "test " : Str).length ≤ sizeLine := by decide +kernel
          refine ⟨_, rfl, .inl ⟨rfl, _, SqL.of g6.e⟩, _, rfl, p4, _, rfl, x, te, rfl, dp_same g6.s _ hx, hte, fun H7 s7 => .inl ⟨_, rfl, sz9 (by omega), _, rfl, sz9 (by omega), ?_⟩⟩
          have g7 := g6.keep s7
          refine ⟨l, _, _, rfl, rfl, g7.e, small1000 (by rw [List.length_map, List.length_append, List.length_cons, List.length_map, List.length_take]; omega), ?_⟩
          refine ⟨_, _, rfl, ?_⟩
          have g8 := g7.put (lineT te)
          have e8 : linesS ns ss (as.take i) ++ lineB ar :: (ar.tests.take j).map lineT ++ [lineT te] = linesS ns ss (as.take i) ++ lineB ar :: (ar.tests.take (j + 1)).map lineT := by
            rw [List.take_add_one, et, List.append_assoc, List.cons_append]
            simp
          rw [e8] at g8
          exact g8
        · rintro σ H6 ⟨x10, x11, rfl, g6⟩
          rw [lt, List.take_length] at g6
          refine ⟨_, rfl, .inl ⟨rfl, _, SqL.of g6.e⟩, ⟨_, rfl⟩, _, rfl, q, rfl, ⟨_, Same.seqT g6.s hq⟩, lcR (walk_tup (xs := cs)) (n1 := by omega) (fun H' s' => Same.seqT (g6.s.trans s') hq) (fun i y _ => ∃ s, ar.turns[i]? = some s ∧ y = .str (wordsS s)) (fun _ _ _ _ _ e => e) ?_ ?_⟩
          · rintro D acc j x Ha Hb K2 hi s nD hD ⟨rfl, ex⟩ kk
            obtain ⟨tu, en, hx⟩ := map_at hqs ex
            have htu := okF_of ok.m3 (forms_each har.cs tu (List.mem_of_getElem? en))
            exact ⟨rfl, _, rfl, x, tu, rfl, dp_same (g6.s.trans s) _ hx, htu, fun Hc sc => kk _ _ sc ⟨tu, en, rfl⟩⟩
          · rintro D H7 ys nw hlen he
            have ey : ys = (ar.turns.map wordsS).map V.str := by
              rw [List.map_map]
              exact list_is (by rw [hlen, lc]) he
            subst ey
            have g7 := g6.keep nw.2.2
            have q1 := turns_sum ok.m3 har
            have q2 := turns_len ok.m3 har
            have q3 := lineE_len ok.m3 har
            unfold lineE at q3
            refine ⟨_, D, ar.turns.map wordsS, rfl, rfl, .inl (SqL.of nw.2.1), ?_, _, _, rfl, rfl, sz9 (by rw [show ("then " : Str).length = 5 by decide +kernel]; omega), ?_⟩
            · rw [show ("; " : Str).length = 2 by decide +kernel, List.length_map]
              omega
            refine ⟨l, _, _, rfl, rfl, g7.e, small1000 (by rw [List.length_map, List.length_append, List.length_cons, List.length_map]; omega), ?_⟩
            refine ⟨_, _, _, _, _, _, _, _, rfl, ?_⟩
            have g8 := g7.put (lineE ar)
            have e8 : linesS ns ss (as.take i) ++ lineB ar :: ar.tests.map lineT ++ [lineE ar] = linesS ns ss (as.take (i + 1)) := by
              rw [List.take_add_one, ea]
              unfold linesS armL
              simp
            rw [e8] at g8
            exact g8
      · rintro σ H4 ⟨x4, x5, x6, x7, x8, x9, x10, x11, rfl, g4⟩
        rw [lz, List.take_length] at g4
        have h1 := lines_sum ok
        have h2 := lines_len ok
        refine ⟨⟨_, rfl⟩, _, rfl, _, l, linesS ns ss as, rfl, rfl, .inl (SqL.of g4.e), ?_, k H4 g4.s⟩
        rw [show ("\n" : Str).length = 1 by decide +kernel]
        omega
end
end Pg
set_option Elab.async false
set_option linter.all false
set_option maxRecDepth 100000
set_option maxHeartbeats 8000000
namespace Nu
open PySem PySem.Spec PyProof.Rows L2 TL
theorem numL_head : ∀ n : Nat, 1 ≤ n → ∃ c r, numL n = c :: r ∧ 49 ≤ c := by
  intro n
  induction n using Nat.strongRecOn with
  | _ n ih =>
    intro h1
    by_cases h : n < 10
    · exact ⟨48 + n, [], numL_lt h, by omega⟩
    · obtain ⟨c, r, e, h2⟩ := ih (n / 10) (by omega) (by omega)
      exact ⟨c, r ++ [48 + n % 10], by rw [numL_step (by omega), e, List.cons_append], h2⟩
/-- the figures of a number's text -/
def figsS (i : Int) : Str := ⟨(numL i.natAbs).toArray⟩
theorem tl_figs (i : Int) : tl (figsS i) = numL i.natAbs := rfl
theorem sub_zero (x y : Str) : Builtin.Str.subAt x y 0 = ((tl x).take y.length == tl y) := by
  unfold Builtin.Str.subAt
  rw [Bool.eq_iff_iff, beq_iff_eq, beq_iff_eq, ← Array.toList_inj, Array.toList_extract]
  simp [TL.tl, List.extract]
theorem rm_num (i : Int) : Txt.removeprefix (numS i) "-" = figsS i := by
  rw [StrLaws.removeprefix_eq, sub_zero]
  have e1 : ("-" : Str).length = 1 := by decide +kernel
  have e2 : tl ("-" : Str) = [45] := by decide +kernel
  rw [e1, e2]
  cases i with
  | ofNat n =>
    have h0 : tl (numS (Int.ofNat n)) = numL n := tl_pos n
    have hf : ((tl (numS (Int.ofNat n))).take 1 == [45]) = false := by
      rw [h0]
      cases h : numL n with
      | nil => rfl
      | cons c r =>
        have hd := numL_digits n c (by rw [h]; exact List.mem_cons_self ..)
        rw [Bool.eq_false_iff]
        intro hh
        have : [c] = [45] := by simpa using hh
        have : c = 45 := by simpa using this
        omega
    rw [hf, Bool.and_false, if_neg Bool.false_ne_true]
    exact ext_tl h0
  | negSucc n =>
    have h0 : tl (numS (Int.negSucc n)) = 45 :: numL (n + 1) := tl_neg n
    have hl : (numS (Int.negSucc n)).length = (numL (n + 1)).length + 1 := by
      rw [len_tl, h0, List.length_cons]
    have h1 : ((tl (numS (Int.negSucc n))).take 1 == [45]) = true := by
      rw [h0]
      rfl
    rw [h1, hl, decide_eq_true (by omega), Bool.and_self, if_pos rfl]
    apply ext_tl
    show ((tl (numS (Int.negSucc n))).drop 1).take _ = _
    rw [h0]
    show (numL (n + 1)).take _ = _
    rw [Nat.add_sub_cancel, List.take_length]
    rfl
end Nu
namespace Pg
open PySem PySem.Spec PyProof.Rows L2 Gd Rl Te Nu TL
abbrev sNu : Stmt := top 33
abbrev sFo : Stmt := top 51
section
variable {P : Program} {w : World} {K : PySem.W.Frag} {mg : Str → Option Value} {base : Heap} {f : Addr} {fd : FuncData}
theorem truths (n : Nat) : ((List.range n).map fun _ => true).all id = true := by
  rw [List.all_eq_true]
  intro b hb
  obtain ⟨i, _, rfl⟩ := List.mem_map.mp hb
  rfl
/-! ### is_numeral -/
def spNu (K : PySem.W.Frag) : Sp := fun vs H Q _ => ∃ i : Int, vs = [.str (numS i)] ∧ (-1000000 ≤ i ∧ i ≤ 1000000) ∧ ∀ H', Same H H' → Q (.bl true) H'
theorem scNu : FnScope ["word", "figures", "sign"] ["word"] (defScope sNu) := ⟨rfl, rfl, rfl, by decide +kernel, rfl, by decide +kernel, by decide +kernel⟩
theorem ok_nu (F : FnP K "is_numeral" sNu f fd) (T : Mo mg) : FnOk P w K mg base CX0 1 f fd ["word"] (spNu K) := by
  obtain ⟨t3, c3⟩ := T.figs
  refine F.ok scNu (fun vs H Q E h => ?_) (fun cdv A outer s H vs Q E hr h => ?_)
  · obtain ⟨v, rfl, _⟩ := h
    rfl
  · obtain ⟨i, rfl, hi, k⟩ := h
    refine ⟨_, PSs.nox <| pss_cons (ps_set (i := 1) scNu.nd rfl (.inl rfl) (pe_bm PySem.F.plainAttrs_str PySem.F.slot_str_removeprefix PySem.F.type_str_removeprefix mt_removeprefix (pv 0) (pa_cons pe_str pa_nil)))
      <| pss_cons (ps_if (PW.pt (pw_or (pt_not (pt_truth (pv 1) (by intro _; rfl))) (pw_or1 (pt_not (pt_val (pe_callB (cr_all rfl) (by rfl) T.all (by decide +kernel) (pa_cons (pe_lc (own := [("sign", 2)]) (g := gName 2) (tt := tYes) rfl scNu.nd (pi_str (pv 1)) (blkOk_by (N := ["word", "figures", "sign"]) (sc := defScope sNu) (by decide +kernel)) (fun _ _ _ _ _ => pg_name (i := 2) scNu.nd rfl (Or.inl rfl)) (fun _ _ _ _ _ => pts_nil)
          (fun _ _ _ _ _ => pe_cmpR op_in_sign (pv 2) (pe_glob (v := .str figS) (by rfl) c3 ⟨_, rfl⟩) (by rfl))) pa_nil))))))) (pss_one (ps_ret pe_bl)) pss_nil)
      <| pss_one (ps_ret (pe_or (pe_cmpR op_ne (pe_item_str (pv 1) pe_int (fun _ _ => rfl)) pe_str (nomark _)) (pe_one (pe_cmpR op_eq (pv 0) pe_str (nomark _))))), ?_⟩
    have hl := num_len hi
    have hf8 : (figsS i).length ≤ 8 := by
      rw [len_tl, tl_figs]
      exact Nat.le_trans (numL_len (n := i.natAbs) (k := 7) (by decide) (by omega)) (by decide)
    have hne : tl (figsS i) ≠ [] := numL_ne _
    have hpos : 1 ≤ (figsS i).length := len1 hne
    refine ⟨_, rfl, rfl, _, _, rfl, rfl, sz9 (by omega), ?_⟩
    rw [rm_num]
    refine ⟨_, rfl, true, ⟨sz9 (by omega), ?_⟩, ?_⟩
    · simp
      omega
    refine iteF ?_
    have hz : (figsS i).cps.size ≤ 1000 := by
      have : (figsS i).cps.size = (figsS i).length := rfl
      omega
    refine ⟨_, rfl, _, rfl, lcR walk_str (n1 := hz) (fun _ _ => trivial) (fun i y _ => y = .bl true) (fun _ _ _ _ _ e => e) ?_ ?_⟩
    · rintro D acc j x Ha Hb K2 hj s nD hD ⟨rfl, c', ec, rfl⟩ kk
      refine ⟨rfl, _, rfl, c', _, rfl, rfl, kk _ _ (Same.refl _) ?_⟩
      have hm : c' ∈ tl (figsS i) := by
        rw [← Array.getElem?_toList] at ec
        exact List.mem_of_getElem? ec
      rw [tl_figs] at hm
      have hd := numL_digits _ c' hm
      have hin : c' ∈ figS.cps.toList := by
        have e4 : figS.cps.toList = [48, 49, 50, 51, 52, 53, 54, 55, 56, 57] := by decide +kernel
        rw [e4]
        simp only [List.mem_cons, List.not_mem_nil, or_false]
        omega
      rw [decide_eq_true hin]
    · rintro D Hb ys nw hlen2 he
      have ey : ys = ((List.range (figsS i).cps.size).map fun _ => true).map V.bl := by
        rw [List.map_map]
        exact list_of hlen2 he
      refine ⟨D, _, rfl, by rw [← ey]; exact SqL.of nw.2.1, _, rfl, ?_⟩
      refine iteBF (notT (truths _)) ?_
      obtain ⟨c, r, hc⟩ : ∃ c r, tl (figsS i) = c :: r := by
        cases h : tl (figsS i) with
        | nil => exact absurd h hne
        | cons c r => exact ⟨c, r, rfl⟩
      have hc0 : (figsS i).cps[(0 : Int).toNat]? = some c := by
        have := hc
        unfold TL.tl at this
        rw [← Array.getElem?_toList, this]
        rfl
      refine ⟨_, rfl, _, 0, c, rfl, rfl, by decide, by decide, by omega, hc0, rfl, _, rfl, ?_⟩
      have kt := k Hb nw.2.2
      by_cases hz0 : i = 0
      · subst hz0
        have ec : c = 48 := by
          rw [tl_figs] at hc
          have : numL (Int.natAbs 0) = [48] := numL_lt (by decide)
          rw [this] at hc
          exact (List.cons.inj hc).1.symm
        subst ec
        refine iteBF (by decide +kernel) ?_
        refine ⟨_, rfl, rfl, ?_⟩
        rw [show decide (V.str (numS 0) = V.str "0") = true by decide +kernel]
        exact kt
      · obtain ⟨c2, r2, e2, h49⟩ := numL_head i.natAbs (by omega)
        rw [tl_figs, e2] at hc
        have ec : c = c2 := (List.cons.inj hc).1.symm
        subst ec
        refine iteBT ?_ kt
        have hne2 : ¬ (V.str ⟨#[c]⟩ = V.str "0") := fun e => by
          have e3 : (⟨#[c]⟩ : Str) = "0" := V.str.inj e
          have e4 : tl (⟨#[c]⟩ : Str) = tl ("0" : Str) := by rw [e3]
          rw [show tl ("0" : Str) = [48] by decide +kernel] at e4
          have : c = 48 := (List.cons.inj (show [c] = [48] from e4)).1
          omega
        simp [hne2]
/-! ### _form_of -/
def spFo (K : PySem.W.Frag) : Sp := fun vs H Q _ => ∃ f : List Int, vs = [.str (wordsS f)] ∧ OkF f ∧ f ≠ [] ∧ ∀ p H', Same H H' → SqT K H' p (f.map V.int) → Q (.ref p) H'
abbrev nFo : List Str := ["text", "words", "longest", "word"]
theorem scFo : FnScope nFo ["text"] (defScope sFo) := ⟨rfl, rfl, rfl, by decide +kernel, rfl, by decide +kernel, by decide +kernel⟩
theorem words_split {f : List Int} (h : f ≠ []) : Txt.split (wordsS f) " " = f.map numS := by
  unfold wordsS
  refine split_join (s := 32) (S := []) (by decide +kernel) (by decide +kernel) (fun e => h (List.map_eq_nil_iff.mp e)) fun p hp => ?_
  obtain ⟨i, _, rfl⟩ := List.mem_map.mp hp
  exact num_free i (.inl (by decide))
theorem ok_fo {fU : Addr} {dU : FuncData} (F : FnP K "_form_of" sFo f fd) (T : Mo mg) (FU : FnP K "is_numeral" sNu fU dU) (gU : mg "is_numeral" = some (.ref fU)) : FnOk P w K mg base CX0 2 f fd ["text"] (spFo K) := by
  have GU : FnOk P w K mg base CX0 1 fU dU ["word"] (spNu K) := ok_nu FU T
  have bU : Binds K dU ["word"] [] := FU.bindsN fun _ _ _ _ _ _ us hl => match us, hl with | [_], _ => rfl
  obtain ⟨t1, c1⟩ := T.mnum
  refine F.ok scFo (fun vs H Q E h => ?_) (fun cdv A outer s H vs Q E hr h => ?_)
  · obtain ⟨v, rfl, _⟩ := h
    rfl
  · obtain ⟨fo, rfl, ok, hne, k⟩ := h
    refine ⟨_, PSs.nox <| pss_cons (ps_set (i := 1) scFo.nd rfl (.inl rfl) (pe_split (pv 0) pe_str))
      <| pss_cons (ps_set (i := 2) scFo.nd rfl (.inr rfl) (pe_callB call_len_str (by rfl) T.len PySem.boot_len (pa_cons (pe_callTy call_str_int (by rfl) T.str (by decide +kernel) (pa_cons (pe_un un_neg (pe_glob (v := .int 1000000) (by rfl) c1 ⟨_, rfl⟩)) pa_nil)) pa_nil)))
      <| pss_cons (ps_if (pt_not (pt_val (pe_callB (cr_all rfl) (by rfl) T.all (by decide +kernel) (pa_cons (pe_lc (own := [("word", 3)]) (g := gName 3) (tt := tYes) rfl scFo.nd (pi_list (pv 1)) (blkOk_by (N := nFo) (sc := defScope sFo) (by decide +kernel)) (fun _ _ _ _ _ => pg_name (i := 3) scFo.nd rfl (Or.inl rfl)) (fun _ _ _ _ _ => pts_nil)
          (fun _ _ _ _ _ => pe_and (pe_cmpR op_le (pe_callB call_len_str (by rfl) T.len PySem.boot_len (pa_cons (pv 3) pa_nil)) (pv 2) (nomark _)) (pe_one (pe_call GU hr (by rfl) gU FU.kp bU .nil pass0 (pa_cons (pv 3) pa_nil))))) pa_nil)))) (pss_one ps_never) pss_nil)
      <| pss_one (ps_ret (pe_callTy call_tuple_of (by rfl) T.tuple (by decide +kernel) (pa_cons (pe_lc (own := [("word", 3)]) (g := gName 3) (tt := tYes) rfl scFo.nd (pi_list (pv 1)) (blkOk_by (N := nFo) (sc := defScope sFo) (by decide +kernel)) (fun _ _ _ _ _ => pg_name (i := 3) scFo.nd rfl (Or.inl rfl)) (fun _ _ _ _ _ => pts_nil)
          (fun _ _ _ _ _ => pe_callTy call_int_str (by rfl) T.int (by decide +kernel) (pa_cons (pv 3) pa_nil))) pa_nil))), ?_⟩
    have lw := words_len ok
    have h4 := ok.four
    refine ⟨_, rfl, ⟨_, rfl⟩, _, _, rfl, rfl, by decide +kernel, sz9 (by omega), fun l nl => ?_⟩
    rw [words_split hne]
    generalize hH1 : upd H l (.lst ((fo.map numS).map V.str)) = H1
    have s1 : Same H H1 := by
      rw [← hH1]
      exact same_new nl
    have e1 : H1 l = some (.lst ((fo.map numS).map V.str)) := by
      rw [← hH1]
      exact upd_same
    have e8 : (Str.ofString (toString (-1000000 : Int))).length = 8 := by decide +kernel
    refine ⟨1000000, rfl, _, rfl, by decide +kernel, _, rfl, sz9 (by rw [e8]; decide), ?_⟩
    rw [e8]
    have lf : ((fo.map numS).map V.str).length ≤ 1000 := by
      rw [List.length_map, List.length_map]
      omega
    have hat : ∀ {i : Nat} {x : V}, ((fo.map numS).map V.str)[i]? = some x → ∃ n, fo[i]? = some n ∧ x = .str (numS n) ∧ (-1000000 ≤ n ∧ n ≤ 1000000) := fun {i x} e => by
      obtain ⟨c, ec, rfl⟩ := strs_at e
      rw [List.getElem?_map] at ec
      cases h : fo[i]? with
      | none =>
        rw [h] at ec
        cases ec
      | some n =>
        rw [h] at ec
        exact ⟨n, rfl, by rw [← Option.some.inj ec], ok.nums n (List.mem_of_getElem? h)⟩
    refine ⟨_, rfl, l, rfl, ⟨_, SqL.of e1⟩, lcR (walk_list (xs := (fo.map numS).map V.str)) (n1 := lf) (fun H' s' => s'.seq (SqL.of e1)) (fun i y _ => y = .bl true) (fun _ _ _ _ _ e => e) ?_ ?_⟩
    · rintro D acc j x Ha Hb K2 hj s nD hD ⟨rfl, ex⟩ kk
      obtain ⟨n, en, rfl, hn⟩ := hat ex
      have hl := num_len hn
      refine ⟨rfl, _, rfl, _, rfl, sz9 (by omega), _, rfl, _, _, rfl, rfl, _, rfl, ?_⟩
      refine iteDY (by omega) ?_
      exact ⟨_, rfl, n, rfl, hn, fun Hc sc => kk _ _ sc rfl⟩
    · rintro D H2 ys nw hlen he
      have ey : ys = ((List.range ((fo.map numS).map V.str).length).map fun _ => true).map V.bl := by
        rw [List.map_map]
        exact list_of hlen he
      refine ⟨D, _, rfl, by rw [← ey]; exact SqL.of nw.2.1, _, rfl, ?_⟩
      refine iteBF (notT (truths _)) ?_
      have e2 := nw.2.2 _ _ e1
      refine ⟨_, rfl, l, rfl, ⟨_, SqL.of e2⟩, lcR (walk_list (xs := (fo.map numS).map V.str)) (n1 := lf) (fun H' s' => s'.seq (SqL.of e2)) (fun i y _ => ∃ s, fo[i]? = some s ∧ y = .int s) (fun _ _ _ _ _ e => e) ?_ ?_⟩
      · rintro D2 acc j x Ha Hb K2 hj s nD hD ⟨rfl, ex⟩ kk
        obtain ⟨n, en, rfl, hn⟩ := hat ex
        have hl := num_len hn
        exact ⟨rfl, _, rfl, _, n, rfl, num_read hn, by omega, kk _ _ (Same.refl _) ⟨n, en, rfl⟩⟩
      · rintro D2 H3 zs nw2 hlen2 he2
        have ez : zs = fo.map V.int := list_is (by rw [hlen2, List.length_map, List.length_map]) he2
        subst ez
        refine ⟨D2, _, rfl, .inl ⟨SqL.of nw2.2.1, fun q nq => ?_⟩⟩
        exact k q _ (s1.trans (nw.2.2.trans (nw2.2.2.trans (same_new nq)))) (SqT.of upd_same)
end
end Pg
set_option Elab.async false
set_option linter.all false
set_option maxRecDepth 100000
set_option maxHeartbeats 8000000
namespace Pg
open PySem PySem.Spec PyProof.Rows L2 Gd Rl Te Nu TL
abbrev sPa : Stmt := top 50
/-! ### the lines, one by one -/
inductive Ln where
  | v (ns : List Str)
  | s (p : Str) (f : List Int)
  | b (s t : Str)
  | t (f : List Int)
  | e (fs : List (List Int))
def txtL : Ln → Str
  | .v ns => lineV ns
  | .s p f => lineS (p, f)
  | .b s t => Str.empty ++ "branch " ++ s ++ " " ++ t
  | .t f => lineT f
  | .e fs => "then " ++ Txt.join "; " (fs.map wordsS)
def armN (a : Arm) : List Ln := .b a.src a.tgt :: (a.tests.map Ln.t ++ [.e a.turns])
def allN (ns : List Str) (ss : List (Str × List Int)) (as : List Arm) : List Ln := .v ns :: ((ss.map fun s => Ln.s s.1 s.2) ++ (as.map armN).flatten)
theorem txt_arm (a : Arm) : (armN a).map txtL = armL a := by
  unfold armN armL
  rw [List.map_cons, List.map_append, List.map_map]
  rfl
theorem txt_all (ns : List Str) (ss : List (Str × List Int)) (as : List Arm) : (allN ns ss as).map txtL = linesS ns ss as := by
  unfold allN linesS
  rw [List.map_cons, List.map_append, List.map_map, List.map_flatten, List.map_map]
  congr 2
  congr 1
  exact List.map_congr_left fun a _ => txt_arm a
/-- what has been read -/
structure Ms where
  names : List Str
  says : List (Str × List Int)
  arms : List Arm
  src : Str
  tgt : Str
  tests : List (List Int)
def stepM (m : Ms) : Ln → Ms
  | .v ns => { m with names := ns }
  | .s p f => { m with says := m.says ++ [(p, f)] }
  | .b s t => { m with src := s, tgt := t, tests := [] }
  | .t f => { m with tests := m.tests ++ [f] }
  | .e fs => { m with arms := m.arms ++ [⟨m.src, m.tgt, m.tests, fs⟩] }
def m0 : Ms := ⟨[], [], [], "", "", []⟩
theorem fold_says (ss : List (Str × List Int)) : ∀ m : Ms, (ss.map fun s => Ln.s s.1 s.2).foldl stepM m = { m with says := m.says ++ ss } := by
  induction ss with
  | nil =>
    intro m
    simp
  | cons s ss ih =>
    intro m
    rw [List.map_cons, List.foldl_cons, ih]
    simp [stepM]
theorem fold_tests (ts : List (List Int)) : ∀ m : Ms, (ts.map Ln.t).foldl stepM m = { m with tests := m.tests ++ ts } := by
  induction ts with
  | nil =>
    intro m
    simp
  | cons s ts ih =>
    intro m
    rw [List.map_cons, List.foldl_cons, ih]
    simp [stepM]
theorem fold_arm (a : Arm) (m : Ms) : (armN a).foldl stepM m = { m with arms := m.arms ++ [a], src := a.src, tgt := a.tgt, tests := a.tests } := by
  unfold armN
  rw [List.foldl_cons, List.foldl_append, fold_tests]
  rfl
theorem fold_arms (as : List Arm) : ∀ m : Ms, ∃ s t te, (as.map armN).flatten.foldl stepM m = { m with arms := m.arms ++ as, src := s, tgt := t, tests := te } := by
  induction as with
  | nil =>
    intro m
    exact ⟨m.src, m.tgt, m.tests, by simp⟩
  | cons a as ih =>
    intro m
    rw [List.map_cons, List.flatten_cons, List.foldl_append, fold_arm]
    obtain ⟨s, t, te, e⟩ := ih { m with arms := m.arms ++ [a], src := a.src, tgt := a.tgt, tests := a.tests }
    exact ⟨s, t, te, by rw [e]; simp⟩
theorem fold_all (ns : List Str) (ss : List (Str × List Int)) (as : List Arm) : ∃ s t te, (allN ns ss as).foldl stepM m0 = ⟨ns, ss, as, s, t, te⟩ := by
  unfold allN
  rw [List.foldl_cons, List.foldl_append, fold_says]
  obtain ⟨s, t, te, e⟩ := fold_arms as { (stepM m0 (.v ns)) with says := (stepM m0 (.v ns)).says ++ ss }
  exact ⟨s, t, te, by rw [e]; rfl⟩
/-! ### what the lines hold -/
def OkL : Ln → Prop
  | .v ns => OkN ns
  | .s p f => nameS p = true ∧ OkF f ∧ f ≠ []
  | .b s t => nameS s = true ∧ nameS t = true
  | .t f => OkF f ∧ f ≠ []
  | .e fs => fs ≠ [] ∧ fs.length ≤ 3 ∧ ∀ f ∈ fs, OkF f ∧ f ≠ []
theorem form_ne {m : Nat} {f : List Int} (h : formB m (fD f) = true) : f ≠ [] := fun e => by
  have := (form_nums h).1
  rw [e] at this
  cases this
theorem all_okL {m : Nat} (h1 : 1 ≤ m) {ns : List Str} {ss : List (Str × List Int)} {as : List Arm} (ok : OkT m ns ss as) : ∀ l ∈ allN ns ss as, OkL l := by
  intro l hl
  unfold allN at hl
  rcases List.mem_cons.mp hl with rfl | hl
  · exact ok.n
  rcases List.mem_append.mp hl with hl | hl
  · obtain ⟨s, hs, rfl⟩ := List.mem_map.mp hl
    obtain ⟨k1, k2⟩ := say_parts (ok.s.sy s hs)
    exact ⟨k1, okF_of ok.m3 k2, form_ne k2⟩
  · obtain ⟨q, hq, hl⟩ := List.mem_flatten.mp hl
    obtain ⟨a, ha, rfl⟩ := List.mem_map.mp hq
    have hA := ok.arm a ha
    unfold armN at hl
    rcases List.mem_cons.mp hl with rfl | hl
    · exact ⟨hA.s, hA.t⟩
    rcases List.mem_append.mp hl with hl | hl
    · obtain ⟨t, ht, rfl⟩ := List.mem_map.mp hl
      have hf := forms_each hA.ts t ht
      exact ⟨okF_of ok.m3 hf, form_ne hf⟩
    · rw [List.mem_singleton.mp hl]
      have hm := hA.cm
      refine ⟨fun e => ?_, by have := ok.m3; omega, fun f hf => ?_⟩
      · rw [e] at hm
        simp at hm
        omega
      · have hf := forms_each hA.cs f hf
        exact ⟨okF_of ok.m3 hf, form_ne hf⟩
/-! ### signs that do not stand in them -/
theorem name_free {z : Str} (h : nameS z = true) {s : Nat} (hs : s ∉ (letS ++ figS).cps.toList) : s ∉ tl z := by
  intro hm
  unfold nameS at h
  cases e : z.cps.toList with
  | nil =>
    unfold TL.tl at hm
    rw [e] at hm
    cases hm
  | cons c r =>
    rw [e] at h
    simp only [Bool.and_eq_true] at h
    have h2 := List.all_eq_true.mp h.2.2
    unfold TL.tl at hm
    rw [e] at hm
    exact hs (of_decide_eq_true (h2 s hm))
theorem joinL_free {s : Nat} {S : List Nat} (hS : s ∉ S) : ∀ {ps : List (List Nat)}, (∀ p ∈ ps, s ∉ p) → s ∉ joinL S ps
  | [], _ => fun h => by cases h
  | [p], h => h p (List.mem_singleton.mpr rfl)
  | p :: q :: r, h => by
    intro hm
    have e : joinL S (p :: q :: r) = p ++ (S ++ joinL S (q :: r)) := rfl
    rw [e] at hm
    rcases List.mem_append.mp hm with hm | hm
    · exact h p (List.mem_cons_self ..) hm
    rcases List.mem_append.mp hm with hm | hm
    · exact hS hm
    · exact joinL_free hS (fun z hz => h z (List.mem_cons_of_mem _ hz)) hm
theorem join_free {s : Nat} {y : Str} {ps : List Str} (hS : s ∉ tl y) (h : ∀ p ∈ ps, s ∉ tl p) : s ∉ tl (Txt.join y ps) := by
  rw [join_eq, tl_join]
  refine joinL_free hS fun p hp => ?_
  obtain ⟨z, hz, rfl⟩ := List.mem_map.mp hp
  exact h z hz
theorem words_free {s : Nat} (hs : s < 32 ∨ 57 < s) (f : List Int) : s ∉ tl (wordsS f) := by
  unfold wordsS
  refine join_free ?_ fun p hp => ?_
  · rw [show tl (" " : Str) = [32] by decide +kernel]
    simp
    omega
  · obtain ⟨i, _, rfl⟩ := List.mem_map.mp hp
    exact num_free i (by omega)
theorem free_app {s : Nat} {x y : Str} (h1 : s ∉ tl x) (h2 : s ∉ tl y) : s ∉ tl (x ++ y) := by
  rw [tl_append]
  intro h
  rcases List.mem_append.mp h with h | h
  · exact h1 h
  · exact h2 h
theorem line_free {l : Ln} (h : OkL l) : 10 ∉ tl (txtL l) := by
  have nf : ∀ {z : Str}, nameS z = true → 10 ∉ tl z := fun h => name_free h (by decide +kernel)
  cases l with
  | v ns =>
    refine join_free (by decide +kernel) fun p hp => ?_
    rcases List.mem_cons.mp hp with rfl | hp
    · decide +kernel
    · exact nf ((show OkN ns from h).nm p hp)
  | s p f => exact free_app (free_app (free_app (free_app (by decide +kernel) (by decide +kernel)) (nf h.1)) (by decide +kernel)) (words_free (by decide) f)
  | b s t => exact free_app (free_app (free_app (free_app (by decide +kernel) (by decide +kernel)) (nf h.1)) (by decide +kernel)) (nf h.2)
  | t f => exact free_app (free_app (by decide +kernel) (by decide +kernel)) (words_free (by decide) f)
  | e fs =>
    refine free_app (by decide +kernel) (join_free (by decide +kernel) fun p hp => ?_)
    obtain ⟨f, _, rfl⟩ := List.mem_map.mp hp
    exact words_free (by decide) f
theorem text_split {m : Nat} (h1 : 1 ≤ m) {ns : List Str} {ss : List (Str × List Int)} {as : List Arm} (ok : OkT m ns ss as) : Txt.split (textS ns ss as) "\n" = (allN ns ss as).map txtL := by
  unfold textS
  rw [← txt_all]
  refine split_join (s := 10) (S := []) (by decide +kernel) (by decide +kernel) (fun e => ?_) fun p hp => ?_
  · unfold allN at e
    rw [List.map_cons] at e
    cases e
  · obtain ⟨l, hl, rfl⟩ := List.mem_map.mp hp
    exact line_free (all_okL h1 ok l hl)
/-! ### the first word of a line, and the rest -/
def wordL : Ln → Str
  | .v _ => "vars"
  | .s _ _ => "say"
  | .b _ _ => "branch"
  | .t _ => "test"
  | .e _ => "then"
def restL : Ln → Str
  | .v ns => Txt.join " " ns
  | .s p f => p ++ " " ++ wordsS f
  | .b s t => s ++ " " ++ t
  | .t f => wordsS f
  | .e fs => Txt.join "; " (fs.map wordsS)
theorem line_cut {l : Ln} (h : OkL l) : txtL l = wordL l ++ " " ++ restL l := by
  cases l with
  | v ns =>
    cases ns with
    | nil => exact absurd (show OkN [] from h).one (by decide)
    | cons n r =>
      show Txt.join " " ("vars" :: n :: r) = "vars" ++ " " ++ Txt.join " " (n :: r)
      rw [join_eq, join_eq]
      rfl
  | s p f =>
    apply ext_tl
    show tl (Str.empty ++ "say " ++ p ++ " " ++ wordsS f) = tl ("say" ++ " " ++ (p ++ " " ++ wordsS f))
    simp only [tl_append, List.append_assoc]
    rw [show tl ("say " : Str) = tl ("say" : Str) ++ tl (" " : Str) by decide +kernel, List.append_assoc]
    rfl
  | b s t =>
    apply ext_tl
    show tl (Str.empty ++ "branch " ++ s ++ " " ++ t) = tl ("branch" ++ " " ++ (s ++ " " ++ t))
    simp only [tl_append, List.append_assoc]
    rw [show tl ("branch " : Str) = tl ("branch" : Str) ++ tl (" " : Str) by decide +kernel, List.append_assoc]
    rfl
  | t f =>
    apply ext_tl
    show tl (Str.empty ++ "test " ++ wordsS f) = tl ("test" ++ " " ++ wordsS f)
    simp only [tl_append, List.append_assoc]
    rw [show tl ("test " : Str) = tl ("test" : Str) ++ tl (" " : Str) by decide +kernel, List.append_assoc]
    rfl
  | e fs =>
    apply ext_tl
    show tl ("then " ++ Txt.join "; " (fs.map wordsS)) = tl ("then" ++ " " ++ Txt.join "; " (fs.map wordsS))
    simp only [tl_append, List.append_assoc]
    rw [show tl ("then " : Str) = tl ("then" : Str) ++ tl (" " : Str) by decide +kernel, List.append_assoc]
theorem word_free (l : Ln) : 32 ∉ tl (wordL l) := by
  cases l with
  | v _ => exact (by decide +kernel : 32 ∉ tl ("vars" : Str))
  | s _ _ => exact (by decide +kernel : 32 ∉ tl ("say" : Str))
  | b _ _ => exact (by decide +kernel : 32 ∉ tl ("branch" : Str))
  | t _ => exact (by decide +kernel : 32 ∉ tl ("test" : Str))
  | e _ => exact (by decide +kernel : 32 ∉ tl ("then" : Str))
theorem line_part {l : Ln} (h : OkL l) : Txt.partition (txtL l) " " = (wordL l, (" " : Str), restL l) := by
  rw [line_cut h]
  exact partition_app (s := 32) (S := []) (by decide +kernel) (word_free l)
theorem two_part {a b : Str} (h : nameS a = true) : Txt.partition (a ++ " " ++ b) " " = (a, (" " : Str), b) :=
  partition_app (s := 32) (S := []) (by decide +kernel) (name_free h (by decide +kernel))
theorem names_split {ns : List Str} (h : OkN ns) : Txt.split (Txt.join " " ns) " " = ns :=
  split_join (y := " ") (s := 32) (S := []) (by decide +kernel) (by decide +kernel) (fun e => absurd h.one (by rw [e]; decide)) fun p hp => name_free (h.nm p hp) (by decide +kernel)
theorem turns_split {fs : List (List Int)} (h : fs ≠ []) : Txt.split (Txt.join "; " (fs.map wordsS)) "; " = fs.map wordsS := by
  refine split_join (s := 59) (S := [32]) (by decide +kernel) (by decide +kernel) (fun e => h (List.map_eq_nil_iff.mp e)) fun p hp => ?_
  obtain ⟨f, _, rfl⟩ := List.mem_map.mp hp
  exact words_free (by decide) f
end Pg
set_option Elab.async false
set_option linter.all false
set_option maxRecDepth 100000
set_option maxHeartbeats 16000000
namespace Pg
open PySem PySem.Spec PyProof.Rows L2 Gd Rl Te Nu TL
/-! ### data without lists stays where a list is changed -/
mutual
def nolD : PyData → Bool
  | .list _ => false
  | .tuple ds => nolAll ds
  | _ => true
def nolAll : List PyData → Bool
  | [] => true
  | d :: ds => nolD d && nolAll ds
end
theorem seqT_upd {K : PySem.W.Frag} {H : Hp} {l a : Addr} {X Y xs : List V} (hl : H l = some (.lst X)) (h : SqT K H a xs) : SqT K (upd H l (.lst Y)) a xs := by
  rcases h with (h | ⟨o, h⟩) | h
  · refine .inl (.inl ?_)
    rw [upd_ne (fun e => by rw [e, hl] at h; cases h)]
    exact h
  · refine .inl (.inr ⟨o, ?_⟩)
    rw [upd_ne (fun e => by rw [e, hl] at h; cases h)]
    exact h
  · exact .inr h
mutual
theorem dp_upd {K : PySem.W.Frag} {H : Hp} {l : Addr} {X Y : List V} (hl : H l = some (.lst X)) : ∀ (d : PyData) {v : V}, nolD d = true → Dp K H v d → Dp K (upd H l (.lst Y)) v d
  | .none, _, _, h => by cases h; exact .non
  | .bool b, _, _, h => by cases h; exact .bl b
  | .int i, _, _, h => by cases h; exact .int i
  | .str z, _, _, h => by cases h; exact .str z
  | .list ds, _, n, _ => by cases n
  | .tuple ds, _, n, h => by
    cases h with
    | tup hs ha => exact .tup (seqT_upd hl hs) (dp_updAll hl ds (by rw [nolD] at n; exact n) ha)
  | .dict _, _, _, h => by cases h
theorem dp_updAll {K : PySem.W.Frag} {H : Hp} {l : Addr} {X Y : List V} (hl : H l = some (.lst X)) : ∀ (ds : List PyData) {vs : List V}, nolAll ds = true → DpAll K H vs ds → DpAll K (upd H l (.lst Y)) vs ds
  | [], _, _, h => by cases h; exact .nil
  | d :: ds, _, n, h => by
    rw [nolAll, Bool.and_eq_true] at n
    cases h with
    | cons h1 h2 => exact .cons (dp_upd hl d n.1 h1) (dp_updAll hl ds n.2 h2)
end
theorem nol_all : ∀ {l : List PyData}, (∀ d ∈ l, nolD d = true) → nolAll l = true
  | [], _ => rfl
  | d :: l, h => by
    rw [nolAll, h d (List.mem_cons_self ..), nol_all fun e he => h e (List.mem_cons_of_mem _ he)]
    rfl
theorem nol_map {α : Type} {g : α → PyData} (h : ∀ a, nolD (g a) = true) (l : List α) : nolAll (l.map g) = true := nol_all fun d hd => by
  obtain ⟨a, _, rfl⟩ := List.mem_map.mp hd
  exact h a
theorem nol_f (f : List Int) : nolD (fD f) = true := by
  unfold fD
  rw [nolD]
  exact nol_map (fun _ => rfl) f
theorem nol_fs (fs : List (List Int)) : nolD (.tuple (fs.map fD)) = true := by
  rw [nolD]
  exact nol_map nol_f fs
theorem nol_say (s : Str × List Int) : nolD (sayD s) = true := by
  unfold sayD
  simp only [nolD, nolAll, nol_f]
  rfl
theorem nol_four {a b c d : PyData} (h1 : nolD a = true) (h2 : nolD b = true) (h3 : nolD c = true) (h4 : nolD d = true) : nolD (.tuple [a, b, c, d]) = true := by
  simp only [nolD, nolAll, h1, h2, h3, h4]
  rfl
theorem nol_arm (a : Arm) : nolD (armD a) = true := nol_four rfl rfl (nol_fs _) (nol_fs _)
theorem dp_snoc {K : PySem.W.Frag} {H : Hp} {v : V} {d : PyData} (hd : Dp K H v d) : ∀ {vs : List V} {ds : List PyData}, DpAll K H vs ds → DpAll K H (vs ++ [v]) (ds ++ [d])
  | _, _, .nil => .cons hd .nil
  | _, _, .cons a b => .cons a (dp_snoc hd b)
/-! ### what stands while the lines are read -/
structure LstD (K : PySem.W.Frag) (H0 H : Hp) (l : Addr) (ds : List PyData) : Prop where
  n : H0 l = none
  x : ∃ X, H l = some (.lst X) ∧ DpAll K H X ds
theorem LstD.same {K : PySem.W.Frag} {H0 H H' : Hp} {l : Addr} {ds : List PyData} (d : LstD K H0 H l ds) (s : Same H H') : LstD K H0 H' l ds :=
  ⟨d.n, d.x.elim fun X h => ⟨X, s _ _ h.1, dp_sameAll s _ h.2⟩⟩
theorem LstD.other {K : PySem.W.Frag} {H0 H : Hp} {l k : Addr} {ds : List PyData} {X Y : List V} (d : LstD K H0 H l ds) (n : nolAll ds = true) (hk : H k = some (.lst X)) (ne : l ≠ k) : LstD K H0 (upd H k (.lst Y)) l ds :=
  ⟨d.n, d.x.elim fun Z h => ⟨Z, by rw [upd_ne ne]; exact h.1, dp_updAll hk _ n h.2⟩⟩
theorem LstD.put {K : PySem.W.Frag} {H0 H : Hp} {l : Addr} {ds : List PyData} {X : List V} {v : V} {e : PyData} (d : LstD K H0 H l ds) (n : nolAll ds = true) (hl : H l = some (.lst X)) (he : Dp K H v e) (ne : nolD e = true) : LstD K H0 (upd H l (.lst (X ++ [v]))) l (ds ++ [e]) := by
  obtain ⟨Z, h1, h2⟩ := d.x
  rw [hl] at h1
  cases h1
  exact ⟨d.n, _, upd_same, dp_snoc (dp_upd hl _ ne he) (dp_updAll hl _ n h2)⟩
structure RepS (K : PySem.W.Frag) (H0 H : Hp) (m : Ms) (a l1 l2 e l3 lL : Addr) (L : List Str) : Prop where
  s : Same H0 H
  na : SqT K H a (m.names.map V.str)
  d1 : LstD K H0 H l1 (m.says.map sayD)
  d2 : LstD K H0 H l2 (m.arms.map armD)
  se : SqT K H e [.str m.src, .str m.tgt]
  d3 : LstD K H0 H l3 (m.tests.map fD)
  ll : H lL = some (.lst (L.map V.str))
  n12 : l1 ≠ l2
  n13 : l1 ≠ l3
  n23 : l2 ≠ l3
  nL1 : lL ≠ l1
  nL2 : lL ≠ l2
  nL3 : lL ≠ l3
section
variable {K : PySem.W.Frag} {H0 H H' : Hp} {m : Ms} {a l1 l2 e l3 lL : Addr} {L : List Str}
theorem RepS.same (r : RepS K H0 H m a l1 l2 e l3 lL L) (s : Same H H') : RepS K H0 H' m a l1 l2 e l3 lL L :=
  ⟨r.s.trans s, Same.seqT s r.na, r.d1.same s, r.d2.same s, Same.seqT s r.se, r.d3.same s, s _ _ r.ll, r.n12, r.n13, r.n23, r.nL1, r.nL2, r.nL3⟩
theorem keep_new {l : Addr} {Y : List V} (s : Same H0 H) (n : H0 l = none) : Same H0 (upd H l (.lst Y)) := fun b o h => by
  rw [upd_ne (ne_of_none h n)]
  exact s _ _ h
theorem RepS.put1 {X : List V} {v : V} {p : Str} {f : List Int} (r : RepS K H0 H m a l1 l2 e l3 lL L) (h : H l1 = some (.lst X)) (hv : Dp K H v (sayD (p, f))) : RepS K H0 (upd H l1 (.lst (X ++ [v]))) (stepM m (.s p f)) a l1 l2 e l3 lL L :=
  ⟨keep_new r.s r.d1.n, seqT_upd h r.na, by
    show LstD _ _ _ _ ((m.says ++ [(p, f)]).map sayD)
    rw [List.map_append]
    exact r.d1.put (nol_map nol_say _) h hv (nol_say _), r.d2.other (nol_map nol_arm _) h r.n12.symm, seqT_upd h r.se, r.d3.other (nol_map nol_f _) h r.n13.symm, by rw [upd_ne r.nL1]; exact r.ll, r.n12, r.n13, r.n23, r.nL1, r.nL2, r.nL3⟩
theorem RepS.put2 {X : List V} {v : V} {fs : List (List Int)} (r : RepS K H0 H m a l1 l2 e l3 lL L) (h : H l2 = some (.lst X)) (hv : Dp K H v (armD ⟨m.src, m.tgt, m.tests, fs⟩)) : RepS K H0 (upd H l2 (.lst (X ++ [v]))) (stepM m (.e fs)) a l1 l2 e l3 lL L :=
  ⟨keep_new r.s r.d2.n, seqT_upd h r.na, r.d1.other (nol_map nol_say _) h r.n12, by
    show LstD _ _ _ _ ((m.arms ++ [(⟨m.src, m.tgt, m.tests, fs⟩ : Arm)]).map armD)
    rw [List.map_append]
    exact r.d2.put (nol_map nol_arm _) h hv (nol_arm _), seqT_upd h r.se, r.d3.other (nol_map nol_f _) h r.n23.symm, by rw [upd_ne r.nL2]; exact r.ll, r.n12, r.n13, r.n23, r.nL1, r.nL2, r.nL3⟩
theorem RepS.put3 {X : List V} {v : V} {f : List Int} (r : RepS K H0 H m a l1 l2 e l3 lL L) (h : H l3 = some (.lst X)) (hv : Dp K H v (fD f)) : RepS K H0 (upd H l3 (.lst (X ++ [v]))) (stepM m (.t f)) a l1 l2 e l3 lL L :=
  ⟨keep_new r.s r.d3.n, seqT_upd h r.na, r.d1.other (nol_map nol_say _) h r.n13, r.d2.other (nol_map nol_arm _) h r.n23, seqT_upd h r.se, by
    show LstD _ _ _ _ ((m.tests ++ [f]).map fD)
    rw [List.map_append]
    exact r.d3.put (nol_map nol_f _) h hv (nol_f _), by rw [upd_ne r.nL3]; exact r.ll, r.n12, r.n13, r.n23, r.nL1, r.nL2, r.nL3⟩
end
theorem dp_ints {K : PySem.W.Frag} {H : Hp} {p : Addr} {f : List Int} (h : SqT K H p (f.map V.int)) : Dp K H (.ref p) (fD f) := by
  refine .tup h ?_
  clear h
  induction f with
  | nil => exact .nil
  | cons i f ih => exact .cons (.int i) ih
theorem dp_names {K : PySem.W.Frag} {H : Hp} {p : Addr} {ns : List Str} (h : SqT K H p (ns.map V.str)) : Dp K H (.ref p) (namesD ns) := by
  refine .tup h ?_
  clear h
  induction ns with
  | nil => exact .nil
  | cons i f ih => exact .cons (.str i) ih
theorem lt24 {n : Nat} (h : n ≤ 10000) : n + 2 ≤ sizeLine := by
  have : sizeLine = 16777216 := by decide
  omega
theorem seqT_del {K : PySem.W.Frag} {H : Hp} {l a : Addr} {X xs : List V} (hl : H l = some (.lst X)) (h : SqT K H a xs) : SqT K (delH H l) a xs := by
  rcases h with (h | ⟨o, h⟩) | h
  · refine .inl (.inl ?_)
    rw [delH_ne (fun e => by rw [e, hl] at h; cases h)]
    exact h
  · refine .inl (.inr ⟨o, ?_⟩)
    rw [delH_ne (fun e => by rw [e, hl] at h; cases h)]
    exact h
  · exact .inr h
def cnt (m : Ms) : Nat := m.says.length + m.arms.length + m.tests.length
theorem cnt_step (m : Ms) (l : Ln) : cnt (stepM m l) ≤ cnt m + 1 := by
  cases l <;> simp only [cnt, stepM, List.length_append, List.length_cons, List.length_nil] <;> omega
theorem cnt_fold (ls : List Ln) : ∀ m : Ms, cnt (ls.foldl stepM m) ≤ cnt m + ls.length := by
  induction ls with
  | nil => exact fun m => Nat.le_refl _
  | cons l ls ih =>
    intro m
    rw [List.foldl_cons, List.length_cons]
    have h1 := ih (stepM m l)
    have h2 := cnt_step m l
    omega
theorem del_same {H : Hp} {D : Addr} : Same (delH H D) H := fun b u e => by
  by_cases q : b = D
  · rw [q, delH_same] at e
    cases e
  · rw [delH_ne q] at e
    exact e
theorem neV {a b : Str} (h : tl a ≠ tl b) : ¬ (V.str a = V.str b) := fun e => h (by rw [V.str.inj e])
section
variable {P : Program} {w : World} {K : PySem.W.Frag} {mg : Str → Option Value} {base : Heap} {f : Addr} {fd : FuncData}
def spPa (K : PySem.W.Frag) : Sp := fun vs H Q _ => ∃ (m : Nat) (ns : List Str) (ss : List (Str × List Int)) (as : List Arm), vs = [.str (textS ns ss as)] ∧ 1 ≤ m ∧ OkT m ns ss as ∧
  ∀ p a b c H', Same H H' → SqT K H' p [.ref a, .ref b, .ref c] → Dp K H' (.ref a) (namesD ns) → Dp K H' (.ref b) (saysD ss) → Dp K H' (.ref c) (armsD as) → Q (.ref p) H'
abbrev nPa : List Str := ["text", "names", "sayings", "branches", "ends", "tests", "line", "word", "_", "rest", "place", "numbers", "source", "target", "changes", "part"]
theorem scPa : FnScope nPa ["text"] (defScope sPa) := ⟨rfl, rfl, rfl, by decide +kernel, rfl, by decide +kernel, by decide +kernel⟩
theorem ok_pa {fO fU : Addr} {dO dU : FuncData} (F : FnP K "_parts_of" sPa f fd) (T : Mo mg) (FO : FnP K "_form_of" sFo fO dO) (gO : mg "_form_of" = some (.ref fO)) (FU : FnP K "is_numeral" sNu fU dU) (gU : mg "is_numeral" = some (.ref fU)) : FnOk P w K mg base CX0 3 f fd ["text"] (spPa K) := by
  have GO : FnOk P w K mg base CX0 2 fO dO ["text"] (spFo K) := ok_fo FO T FU gU
  have bO : Binds K dO ["text"] [] := FO.bindsN fun _ _ _ _ _ _ us hl => match us, hl with | [_], _ => rfl
  refine F.ok scPa (fun vs H Q E h => ?_) (fun cdv A outer s H vs Q E hr h => ?_)
  · obtain ⟨m, ns, ss, as, rfl, _⟩ := h
    rfl
  · obtain ⟨m, ns, ss, as, rfl, m1, ok, k⟩ := h
    refine ⟨_, PSs.nox <| pss_cons (ps_set (i := 1) scPa.nd rfl (.inl rfl) (pe_tupR pa_nil))
      <| pss_cons (ps_set (i := 2) scPa.nd rfl (.inl rfl) (pe_lstR pa_nil))
      <| pss_cons (ps_set (i := 3) scPa.nd rfl (.inl rfl) (pe_lstR pa_nil))
      <| pss_cons (ps_set (i := 4) scPa.nd rfl (.inl rfl) (pe_tupR (pa_cons pe_str (pa_cons pe_str pa_nil))))
      <| pss_cons (ps_set (i := 5) scPa.nd rfl (.inl rfl) (pe_lstR pa_nil))
      <| pss_cons (ps_for PassesOwn.never rfl (pi_list (pe_split (pv 0) pe_str)) (pg_name (i := 6) scPa.nd rfl (.inl rfl))
          (pss_cons (ps_asg (pe_partition (pv 6) pe_str) (pg_tup (by rfl) (pgs_cons (pg_name (i := 7) scPa.nd rfl (.inl rfl)) (pgs_cons (pg_name (i := 8) scPa.nd rfl (.inl rfl)) (pgs_cons (pg_name (i := 9) scPa.nd rfl (.inl rfl)) pgs_nil)))))
          <| pss_one (ps_if (pt_cmpR op_eq (pv 7) pe_str (nomark _))
              (pss_one (ps_set (i := 1) scPa.nd rfl (.inl rfl) (pe_callTy call_tuple_of (by rfl) T.tuple (by decide +kernel) (pa_cons (pe_split (pv 9) pe_str) pa_nil))))
              (pss_one (ps_if (pt_cmpR op_eq (pv 7) pe_str (nomark _))
                (pss_cons (ps_asg (pe_partition (pv 9) pe_str) (pg_tup (by rfl) (pgs_cons (pg_name (i := 10) scPa.nd rfl (.inl rfl)) (pgs_cons (pg_name (i := 8) scPa.nd rfl (.inl rfl)) (pgs_cons (pg_name (i := 11) scPa.nd rfl (.inl rfl)) pgs_nil)))))
                <| pss_one (ps_expr (pe_bm PySem.F.plainAttrs_list PySem.F.slot_list_append PySem.F.type_list_append mt_append (pv 2) (pa_cons (pe_tupR (pa_cons (pv 10) (pa_cons (pe_call GO hr (by rfl) gO FO.kp bO .nil pass0 (pa_cons (pv 11) pa_nil)) pa_nil))) pa_nil))))
                (pss_one (ps_if (pt_cmpR op_eq (pv 7) pe_str (nomark _))
                  (pss_cons (ps_asg (pe_partition (pv 9) pe_str) (pg_tup (by rfl) (pgs_cons (pg_name (i := 12) scPa.nd rfl (.inl rfl)) (pgs_cons (pg_name (i := 8) scPa.nd rfl (.inl rfl)) (pgs_cons (pg_name (i := 13) scPa.nd rfl (.inl rfl)) pgs_nil)))))
                  <| pss_cons (ps_set (i := 4) scPa.nd rfl (.inl rfl) (pe_tupR (pa_cons (pv 12) (pa_cons (pv 13) pa_nil))))
                  <| pss_one (ps_set (i := 5) scPa.nd rfl (.inl rfl) (pe_lstR pa_nil)))
                  (pss_one (ps_if (pt_cmpR op_eq (pv 7) pe_str (nomark _))
                    (pss_one (ps_expr (pe_bm PySem.F.plainAttrs_list PySem.F.slot_list_append PySem.F.type_list_append mt_append (pv 5) (pa_cons (pe_call GO hr (by rfl) gO FO.kp bO .nil pass0 (pa_cons (pv 9) pa_nil)) pa_nil))))
                    (pss_one (ps_if (pt_cmpR op_eq (pv 7) pe_str (nomark _))
                      (pss_cons (ps_setLc (i := 14) (own := [("part", 15)]) (g := gName 15) (tt := tYes) rfl scPa.nd rfl rfl (sw_true rfl rfl rfl (by decide +kernel)) (pi_list (pe_split (pv 9) pe_str)) (blkOk_by (N := nPa) (sc := defScope sPa) (by decide +kernel)) (fun _ _ _ _ _ => pg_name (i := 15) scPa.nd rfl (Or.inl rfl)) (fun _ _ _ _ _ => pts_nil)
                          (fun _ _ _ _ _ => pe_call GO hr (by rfl) gO FO.kp bO .nil pass0 (pa_cons (pv 15) pa_nil)))
                      <| pss_one (ps_expr (pe_bm PySem.F.plainAttrs_list PySem.F.slot_list_append PySem.F.type_list_append mt_append (pv 3) (pa_cons (pe_tupR (StX.pa_star (pv 4) (pa_cons (pe_callTy call_tuple_of (by rfl) T.tuple (by decide +kernel) (pa_cons (pv 5) pa_nil)) (pa_cons (pe_callTy call_tuple_of (by rfl) T.tuple (by decide +kernel) (pa_cons (pv 14) pa_nil)) pa_nil)))) pa_nil))))
                      pss_nil)))))))))))
      <| pss_one (ps_ret (pe_tupR (pa_cons (pv 1) (pa_cons (pe_callTy call_tuple_of (by rfl) T.tuple (by decide +kernel) (pa_cons (pv 2) pa_nil)) (pa_cons (pe_callTy call_tuple_of (by rfl) T.tuple (by decide +kernel) (pa_cons (pv 3) pa_nil)) pa_nil))))), ?_⟩
    refine ⟨(show 0 ≤ 1000 by decide), fun a H1 n1 => ⟨(show 0 ≤ 1000 by decide), fun l1 H2 n2 => ⟨(show 0 ≤ 1000 by decide), fun l2 H3 n3 => ⟨(show 2 ≤ 1000 by decide), fun e H4 n4 => ⟨(show 0 ≤ 1000 by decide), fun l3 H5 n5 => ?_⟩⟩⟩⟩⟩
    have s45 := n5.2.2
    have s35 := n4.2.2.trans s45
    have s25 := n3.2.2.trans s35
    have s15 := n2.2.2.trans s25
    have s05 := n1.2.2.trans s15
    have tlen := text_len ok
    refine ⟨_, rfl, ⟨_, rfl⟩, _, _, rfl, rfl, by decide +kernel, lt24 (by omega), fun lL nL => ?_⟩
    rw [text_split m1 ok]
    have okl := all_okL m1 ok
    have llen : (allN ns ss as).length ≤ 29 := by
      have := lines_len ok
      rw [← txt_all, List.length_map] at this
      exact this
    have z1 : H l1 = none := none_of_same n1.2.2 n2.1
    have z2 : H l2 = none := none_of_same (n1.2.2.trans n2.2.2) n3.1
    have z3 : H l3 = none := none_of_same (n1.2.2.trans (n2.2.2.trans (n3.2.2.trans n4.2.2))) n5.1
    have y1 := s25 _ _ n2.2.1
    have y2 := s35 _ _ n3.2.1
    have y3 := n5.2.1
    have r0 : RepS K H (upd H5 lL (.lst (((allN ns ss as).map txtL).map V.str))) m0 a l1 l2 e l3 lL ((allN ns ss as).map txtL) := by
      have sN := same_new (o := .lst (((allN ns ss as).map txtL).map V.str)) nL
      exact ⟨s05.trans sN, SqT.of (sN _ _ (s15 _ _ n1.2.1)), ⟨z1, _, sN _ _ y1, .nil⟩, ⟨z2, _, sN _ _ y2, .nil⟩, SqT.of (sN _ _ (s45 _ _ n4.2.1)), ⟨z3, _, sN _ _ y3, .nil⟩, upd_same,
        ne_of_none n2.2.1 n3.1, ne_of_none (n4.2.2 _ _ (n3.2.2 _ _ n2.2.1)) n5.1, ne_of_none (n4.2.2 _ _ n3.2.1) n5.1, (ne_of_none y1 nL).symm, (ne_of_none y2 nL).symm, (ne_of_none y3 nL).symm⟩
    generalize upd H5 lL (.lst (((allN ns ss as).map txtL).map V.str)) = H6 at r0
    refine ⟨lL, rfl, ⟨_, SqL.of r0.ll⟩, for_list (xs := ((allN ns ss as).map txtL).map V.str) (fun i σ H' => ∃ a l1 l2 e l3 x6 x7 x8 x9 x10 x11 x12 x13 x14 x15, σ = [some (.str (textS ns ss as)), some (.ref a), some (.ref l1), some (.ref l2), some (.ref e), some (.ref l3), x6, x7, x8, x9, x10, x11, x12, x13, x14, x15] ∧ RepS K H H' (((allN ns ss as).take i).foldl stepM m0) a l1 l2 e l3 lL ((allN ns ss as).map txtL)) ⟨_, _, _, _, _, _, _, _, _, _, _, _, _, _, _, rfl, r0⟩ (fun i σ H' _ ⟨_, _, _, _, _, _, _, _, _, _, _, _, _, _, _, _, r⟩ => SqL.of r.ll) ?_ ?_⟩
    · rintro i x σ H7 ex ⟨a, l1, l2, e, l3, x6, x7, x8, x9, x10, x11, x12, x13, x14, x15, rfl, r⟩
      rw [List.map_map, List.getElem?_map] at ex
      obtain ⟨ln, eln, rfl⟩ : ∃ ln, (allN ns ss as)[i]? = some ln ∧ x = .str (txtL ln) := by
        cases h : (allN ns ss as)[i]? with
        | none =>
          rw [h] at ex
          cases ex
        | some ln =>
          rw [h] at ex
          exact ⟨ln, rfl, (Option.some.inj ex).symm⟩
      have hok := okl ln (List.mem_of_getElem? eln)
      have ef : ((allN ns ss as).take (i + 1)).foldl stepM m0 = stepM (((allN ns ss as).take i).foldl stepM m0) ln := by
        rw [List.take_add_one, eln, List.foldl_append]
        rfl
      rw [ef]
      have hlen : (txtL ln).length ≤ 119 := by
        refine lines_each ok _ ?_
        rw [← txt_all]
        exact List.mem_map_of_mem (List.mem_of_getElem? eln)
      have hcnt := cnt_fold ((allN ns ss as).take i) m0
      rw [List.length_take] at hcnt
      have hc0 : cnt m0 = 0 := rfl
      generalize ((allN ns ss as).take i).foldl stepM m0 = m at r hcnt ⊢
      have hcm : cnt m ≤ 29 := by omega
      unfold cnt at hcm
      clear ef eln ex
      refine ⟨_, rfl, ⟨_, rfl⟩, _, _, rfl, rfl, by decide +kernel, sz9 (by omega), fun p np => ?_⟩
      rw [line_part hok]
      have hcut := line_cut hok
      have hrest : (restL ln).length ≤ 119 := by
        rw [hcut, len_app, len_app] at hlen
        omega
      refine ⟨p, _, rfl, SqT.of upd_same, rfl, _, _, rfl, _, _, rfl, _, _, rfl, rfl, ?_⟩
      have r1 := r.same (same_new (o := .tup [.str (wordL ln), .str " ", .str (restL ln)]) np)
      generalize upd H7 p (.tup [.str (wordL ln), .str " ", .str (restL ln)]) = H8 at r1
      refine ⟨_, rfl, rfl, _, rfl, ?_⟩
      cases ln with
      | v ns2 =>
        refine iteDY rfl ?_
        have hok2 : OkN ns2 := hok
        refine ⟨_, rfl, ⟨_, rfl⟩, _, _, rfl, rfl, by decide +kernel, lt24 (Nat.le_trans hrest (by decide)), fun q nq => ?_⟩
        show ∃ p2 ys, _
        rw [show restL (.v ns2) = Txt.join " " ns2 from rfl, names_split hok2]
        refine ⟨q, _, rfl, .inl ⟨SqL.of upd_same, fun q2 nq2 => ?_⟩⟩
        refine ⟨_, _, _, _, _, _, _, _, _, _, _, _, _, _, _, rfl, ?_⟩
        have r2 := r1.same ((same_new nq).trans (same_new (o := .tup (ns2.map V.str)) nq2))
        exact ⟨r2.s, SqT.of upd_same, r2.d1, r2.d2, r2.se, r2.d3, r2.ll, r2.n12, r2.n13, r2.n23, r2.nL1, r2.nL2, r2.nL3⟩
      | s pl fo =>
        refine iteDN (neV (show tl ("say" : Str) ≠ tl ("vars" : Str) by decide +kernel)) ?_
        refine ⟨_, rfl, rfl, _, rfl, ?_⟩
        refine iteDY rfl ?_
        refine ⟨_, rfl, ⟨_, rfl⟩, _, _, rfl, rfl, by decide +kernel, sz9 (Nat.le_trans hrest (by decide)), fun q nq => ?_⟩
        rw [show restL (.s pl fo) = pl ++ " " ++ wordsS fo from rfl, two_part hok.1]
        refine ⟨q, _, rfl, SqT.of upd_same, rfl, _, _, rfl, _, _, rfl, _, _, rfl, rfl, ?_⟩
        have r2 := r1.same (same_new (o := .tup [.str pl, .str " ", .str (wordsS fo)]) nq)
        generalize upd H8 q (.tup [.str pl, .str " ", .str (wordsS fo)]) = H9 at r2
        obtain ⟨X1, hX1, hD1⟩ := r2.d1.x
        have l1n := dp_len hD1
        rw [List.length_map] at l1n
        refine ⟨_, rfl, .inl ⟨rfl, _, SqL.of hX1⟩, _, rfl, _, rfl, fo, rfl, hok.2.1, hok.2.2, fun p3 H10 s10 hp3 => ⟨(show 2 ≤ 1000 by decide), fun q4 H11 n11 => ?_⟩⟩
        have s911 := s10.trans n11.2.2
        have r3 := r2.same s911
        refine ⟨l1, _, _, rfl, rfl, s911 _ _ hX1, small1000 (by omega), ?_⟩
        refine ⟨_, _, _, _, _, _, _, _, _, _, _, _, _, _, _, rfl, ?_⟩
        exact r3.put1 (s911 _ _ hX1) (.tup (SqT.of n11.2.1) (.cons (.str _) (.cons (dp_ints (Same.seqT n11.2.2 hp3)) .nil)))
      | b sr tg =>
        refine iteDN (neV (show tl ("branch" : Str) ≠ tl ("vars" : Str) by decide +kernel)) ?_
        refine ⟨_, rfl, rfl, _, rfl, ?_⟩
        refine iteDN (neV (show tl ("branch" : Str) ≠ tl ("say" : Str) by decide +kernel)) ?_
        refine ⟨_, rfl, rfl, _, rfl, ?_⟩
        refine iteDY rfl ?_
        refine ⟨_, rfl, ⟨_, rfl⟩, _, _, rfl, rfl, by decide +kernel, sz9 (Nat.le_trans hrest (by decide)), fun q nq => ?_⟩
        rw [show restL (.b sr tg) = sr ++ " " ++ tg from rfl, two_part hok.1]
        refine ⟨q, _, rfl, SqT.of upd_same, rfl, _, _, rfl, _, _, rfl, _, _, rfl, rfl, ?_⟩
        have r2 := r1.same (same_new (o := .tup [.str sr, .str " ", .str tg]) nq)
        generalize upd H8 q (.tup [.str sr, .str " ", .str tg]) = H9 at r2
        refine ⟨_, rfl, _, rfl, (show 2 ≤ 1000 by decide), fun e2 H10 n10 => ⟨(show 0 ≤ 1000 by decide), fun l4 H11 n11 => ?_⟩⟩
        refine ⟨_, _, _, _, _, _, _, _, _, _, _, _, _, _, _, rfl, ?_⟩
        have r3 := r2.same n10.2.2
        have r4 := r3.same n11.2.2
        obtain ⟨X1, hX1, hD1⟩ := r3.d1.x
        obtain ⟨X2, hX2, hD2⟩ := r3.d2.x
        exact ⟨r4.s, r4.na, r4.d1, r4.d2, SqT.of (n11.2.2 _ _ n10.2.1), ⟨none_of_same r3.s n11.1, _, n11.2.1, .nil⟩, r4.ll, r4.n12, ne_of_none hX1 n11.1, ne_of_none hX2 n11.1, r4.nL1, r4.nL2, ne_of_none r3.ll n11.1⟩
      | t fo =>
        refine iteDN (neV (show tl ("test" : Str) ≠ tl ("vars" : Str) by decide +kernel)) ?_
        refine ⟨_, rfl, rfl, _, rfl, ?_⟩
        refine iteDN (neV (show tl ("test" : Str) ≠ tl ("say" : Str) by decide +kernel)) ?_
        refine ⟨_, rfl, rfl, _, rfl, ?_⟩
        refine iteDN (neV (show tl ("test" : Str) ≠ tl ("branch" : Str) by decide +kernel)) ?_
        refine ⟨_, rfl, rfl, _, rfl, ?_⟩
        refine iteDY rfl ?_
        obtain ⟨X3, hX3, hD3⟩ := r1.d3.x
        have l3n := dp_len hD3
        rw [List.length_map] at l3n
        refine ⟨_, rfl, .inl ⟨rfl, _, SqL.of hX3⟩, _, rfl, fo, rfl, hok.1, hok.2, fun p3 H10 s10 hp3 => ?_⟩
        have r3 := r1.same s10
        refine ⟨l3, _, _, rfl, rfl, s10 _ _ hX3, small1000 (by omega), ?_⟩
        refine ⟨_, _, _, _, _, _, _, _, _, _, _, _, _, _, _, rfl, ?_⟩
        exact r3.put3 (s10 _ _ hX3) (dp_ints hp3)
      | e fs =>
        refine iteDN (neV (show tl ("then" : Str) ≠ tl ("vars" : Str) by decide +kernel)) ?_
        refine ⟨_, rfl, rfl, _, rfl, ?_⟩
        refine iteDN (neV (show tl ("then" : Str) ≠ tl ("say" : Str) by decide +kernel)) ?_
        refine ⟨_, rfl, rfl, _, rfl, ?_⟩
        refine iteDN (neV (show tl ("then" : Str) ≠ tl ("branch" : Str) by decide +kernel)) ?_
        refine ⟨_, rfl, rfl, _, rfl, ?_⟩
        refine iteDN (neV (show tl ("then" : Str) ≠ tl ("test" : Str) by decide +kernel)) ?_
        refine ⟨_, rfl, rfl, _, rfl, ?_⟩
        refine iteDY rfl ?_
        obtain ⟨f0, f3, fo⟩ : fs ≠ [] ∧ fs.length ≤ 3 ∧ ∀ f ∈ fs, OkF f ∧ f ≠ [] := hok
        refine ⟨_, rfl, ⟨_, rfl⟩, _, _, rfl, rfl, by decide +kernel, lt24 (Nat.le_trans hrest (by decide)), fun q nq => ?_⟩
        rw [show restL (.e fs) = Txt.join "; " (fs.map wordsS) from rfl, turns_split f0]
        have hq : (upd H8 q (.lst ((fs.map wordsS).map V.str))) q = some (.lst ((fs.map wordsS).map V.str)) := upd_same
        have r2 := r1.same (same_new (o := .lst ((fs.map wordsS).map V.str)) nq)
        generalize upd H8 q (.lst ((fs.map wordsS).map V.str)) = H9 at r2 hq
        refine ⟨q, rfl, ⟨_, SqL.of hq⟩, lcR (walk_list (xs := (fs.map wordsS).map V.str)) (n1 := by rw [List.length_map, List.length_map]; omega) (fun H' s' => s'.seq (SqL.of hq)) (fun i y Hc => ∃ g, fs[i]? = some g ∧ Dp K Hc y (fD g)) (fun i y Ha Hb s ⟨g, e1, e2⟩ => ⟨g, e1, dp_same s _ e2⟩) ?_ ?_⟩
        · rintro D acc j x Ha Hb K2 hj s nD hD ⟨rfl, ex⟩ kk
          obtain ⟨c, ec, rfl⟩ := strs_at ex
          rw [List.getElem?_map] at ec
          obtain ⟨g, eg, rfl⟩ : ∃ g, fs[j]? = some g ∧ c = wordsS g := by
            cases h : fs[j]? with
            | none =>
              rw [h] at ec
              cases ec
            | some g =>
              rw [h] at ec
              exact ⟨g, rfl, (Option.some.inj ec).symm⟩
          obtain ⟨g1, g2⟩ := fo g (List.mem_of_getElem? eg)
          exact ⟨rfl, _, rfl, g, rfl, g1, g2, fun p3 Hc sc hp3 => kk _ _ sc ⟨g, eg, dp_ints (seqT_del (sc _ _ hD) hp3)⟩⟩
        · rintro D H10 ys n10 hlen he
          have hys : DpAll K H10 ys (fs.map fD) := by
            refine dp_of (by rw [hlen, List.length_map, List.length_map, List.length_map]) fun j y ey => ?_
            obtain ⟨g, e1, e2⟩ := he j y ey
            exact ⟨fD g, by rw [List.getElem?_map, e1]; rfl, dp_same del_same _ e2⟩
          have r3 := r2.same n10.2.2
          obtain ⟨X2, hX2, hD2⟩ := r3.d2.x
          obtain ⟨X3, hX3, hD3⟩ := r3.d3.x
          have l2n := dp_len hD2
          rw [List.length_map] at l2n
          refine ⟨_, rfl, .inl ⟨rfl, _, SqL.of hX2⟩, _, rfl, e, _, rfl, .inl r3.se, _, rfl, l3, _, rfl, .inl ⟨SqL.of hX3, fun q1 nq1 => ?_⟩⟩
          have t1 := same_new (o := .tup X3) nq1
          refine ⟨_, rfl, D, _, rfl, .inl ⟨SqL.of (t1 _ _ n10.2.1), fun q2 nq2 => ?_⟩⟩
          have t2 := same_new (o := .tup ys) nq2
          refine ⟨(show 4 ≤ 1000 by decide), fun q3 H12 n12 => ?_⟩
          have t23 := t2.trans n12.2.2
          have t13 := t1.trans t23
          have r4 := r3.same t13
          refine ⟨l2, _, _, rfl, rfl, t13 _ _ hX2, small1000 (by omega), ?_⟩
          refine ⟨_, _, _, _, _, _, _, _, _, _, _, _, _, _, _, rfl, ?_⟩
          exact r4.put2 (t13 _ _ hX2) (.tup (SqT.of n12.2.1) (.cons (.str _) (.cons (.str _) (.cons (.tup (SqT.of (t23 _ _ upd_same)) (dp_sameAll t13 _ hD3)) (.cons (.tup (SqT.of (n12.2.2 _ _ upd_same)) (dp_sameAll t13 _ hys)) .nil)))))
    · rintro σ H7 ⟨a, l1, l2, e, l3, x6, x7, x8, x9, x10, x11, x12, x13, x14, x15, rfl, r⟩
      rw [List.length_map, List.length_map, List.take_length] at r
      obtain ⟨fs, ft, fte, ef⟩ := fold_all ns ss as
      rw [ef] at r
      obtain ⟨X1, hX1, hD1⟩ := r.d1.x
      obtain ⟨X2, hX2, hD2⟩ := r.d2.x
      refine ⟨_, rfl, _, rfl, l1, _, rfl, .inl ⟨SqL.of hX1, fun q1 nq1 => ?_⟩⟩
      have t1 := same_new (o := .tup X1) nq1
      refine ⟨_, rfl, l2, _, rfl, .inl ⟨SqL.of (t1 _ _ hX2), fun q2 nq2 => ?_⟩⟩
      have t2 := same_new (o := .tup X2) nq2
      refine ⟨(show 3 ≤ 1000 by decide), fun q H8 n8 => ?_⟩
      have t12 := t2.trans n8.2.2
      have t02 := t1.trans t12
      exact k q a q1 q2 H8 (r.s.trans t02) (SqT.of n8.2.1) (dp_names (Same.seqT t02 r.na)) (.tup (SqT.of (t12 _ _ upd_same)) (dp_sameAll t02 _ hD1)) (.tup (SqT.of (n8.2.2 _ _ upd_same)) (dp_sameAll t02 _ hD2))
end
end Pg
set_option Elab.async false
set_option linter.all false
set_option maxRecDepth 100000
set_option maxHeartbeats 8000000
namespace Pg
open PySem PySem.Spec PyProof.Rows L2 Gd Rl Te Nu TL Ow
abbrev sCls : Stmt := top 37
abbrev sIni : Stmt := inClass sCls 0
abbrev sLen : Stmt := inClass sCls 10
abbrev sStr : Stmt := inClass sCls 11
abbrev sRep : Stmt := inClass sCls 12
abbrev FunP (K : PySem.W.Frag) (x q : Str) (st : Stmt) (f : Addr) (fd : FuncData) : Prop := FunD K x q (defArgs st) (defBody st) (defScope st) [] [] f fd
/-! ### the object -/
def pfP (a b c d t : V) : List (Str × V) := putF "_text" t (putF "_places" d (putF "_branches" c (putF "_sayings" b (putF "_names" a []))))
theorem ns1 : ¬ (("_names" : Str) = "_text") := by decide +kernel
theorem ns2 : ¬ (("_names" : Str) = "_places") := by decide +kernel
theorem ns3 : ¬ (("_names" : Str) = "_branches") := by decide +kernel
theorem ns4 : ¬ (("_names" : Str) = "_sayings") := by decide +kernel
theorem ss1 : ¬ (("_sayings" : Str) = "_text") := by decide +kernel
theorem ss2 : ¬ (("_sayings" : Str) = "_places") := by decide +kernel
theorem ss3 : ¬ (("_sayings" : Str) = "_branches") := by decide +kernel
theorem bs1 : ¬ (("_branches" : Str) = "_text") := by decide +kernel
theorem bs2 : ¬ (("_branches" : Str) = "_places") := by decide +kernel
theorem ps1 : ¬ (("_places" : Str) = "_text") := by decide +kernel
section
variable (a b c d t : V)
theorem pf_n : (pfP a b c d t).lookup ("_names" : Str) = some a := by
  unfold pfP
  rw [lookup_putF, if_neg ns1, lookup_putF, if_neg ns2, lookup_putF, if_neg ns3, lookup_putF, if_neg ns4, lookup_putF, if_pos rfl]
theorem pf_s : (pfP a b c d t).lookup ("_sayings" : Str) = some b := by
  unfold pfP
  rw [lookup_putF, if_neg ss1, lookup_putF, if_neg ss2, lookup_putF, if_neg ss3, lookup_putF, if_pos rfl]
theorem pf_b : (pfP a b c d t).lookup ("_branches" : Str) = some c := by
  unfold pfP
  rw [lookup_putF, if_neg bs1, lookup_putF, if_neg bs2, lookup_putF, if_pos rfl]
theorem pf_p : (pfP a b c d t).lookup ("_places" : Str) = some d := by
  unfold pfP
  rw [lookup_putF, if_neg ps1, lookup_putF, if_pos rfl]
theorem pf_t : (pfP a b c d t).lookup ("_text" : Str) = some t := by
  unfold pfP
  rw [lookup_putF, if_pos rfl]
end
theorem putF_len (f : Str) (v : V) : ∀ fs : List (Str × V), (putF f v fs).length ≤ fs.length + 1
  | [] => Nat.le_refl _
  | (g, u) :: fs => by
    have ih := putF_len f v fs
    unfold putF
    split
    · simp
    · simp only [List.length_cons]
      omega
theorem seqT_ins {K : PySem.W.Frag} {H : Hp} {p C dx a : Addr} {fs : List (Str × V)} {o : HO} {xs : List V} (hp : H p = some (.ins C dx fs)) (h : SqT K H a xs) : SqT K (upd H p o) a xs := by
  rcases h with (h | ⟨u, h⟩) | h
  · refine .inl (.inl ?_)
    rw [upd_ne (fun e => by rw [e, hp] at h; cases h)]
    exact h
  · refine .inl (.inr ⟨u, ?_⟩)
    rw [upd_ne (fun e => by rw [e, hp] at h; cases h)]
    exact h
  · exact .inr h
/-- a program stands at p -/
def ProgAt (K : PySem.W.Frag) (C : Addr) (H : Hp) (p : Addr) (ns : List Str) (ss : List (Str × List Int)) (as : List Arm) : Prop :=
  ∃ (dx : Addr) (a b c : V) (d : Addr), H p = some (.ins C dx (pfP a b c (.ref d) (.str (textS ns ss as)))) ∧ Dp K H a (namesD ns) ∧ Dp K H b (saysD ss) ∧ Dp K H c (armsD as) ∧ SqT K H d ((placesS ss as).map V.str)
theorem ProgAt.same {K : PySem.W.Frag} {C : Addr} {H H' : Hp} {p : Addr} {ns : List Str} {ss : List (Str × List Int)} {as : List Arm} (g : ProgAt K C H p ns ss as) (s : Same H H') : ProgAt K C H' p ns ss as :=
  let ⟨dx, a, b, c, d, h1, h2, h3, h4, h5⟩ := g
  ⟨dx, a, b, c, d, s _ _ h1, dp_same s _ h2, dp_same s _ h3, dp_same s _ h4, Same.seqT s h5⟩
/-- the class's facts -/
structure Txt (K : PySem.W.Frag) (mg : Str → Option Value) (C : Addr) : Prop where
  cl : Cls K C
  n : NoAttr K C "_names"
  s : NoAttr K C "_sayings"
  b : NoAttr K C "_branches"
  p : NoAttr K C "_places"
  t : NoAttr K C "_text"
  g : mg "Program" = some (.ref C)
/-- the parts are right -/
structure OkP (ns : List Str) (ss : List (Str × List Int)) (as : List Arm) : Prop where
  n : OkN ns
  s : OkS ns.length ss
  a : OkA ns.length ss as
theorem OkP.t {ns : List Str} {ss : List (Str × List Int)} {as : List Arm} (o : OkP ns ss as) : OkT ns.length ns ss as := ⟨o.n.three, o.n, o.s, o.a.five, o.a.arm⟩
/-- where the module's defs stand -/
structure Defs (K : PySem.W.Frag) (mg : Str → Option Value) (fI fN fF fS fU fCN fCS fCB fY fB fP fX fW fA fO : Addr) (dI dN dF dS dU dCN dCS dCB dY dB dP dX dW dA dO : FuncData) : Prop where
  J : Js K mg fI fN fF fS dI dN dF dS
  u : FnP K "is_numeral" sNu fU dU
  cn : FnP K "_check_names" sCN fCN dCN
  cs : FnP K "_check_sayings" sCS fCS dCS
  cb : FnP K "_check_branches" sCB fCB dCB
  y : FnP K "_is_saying" sSay fY dY
  b : FnP K "_is_branch" sBr fB dB
  p : FnP K "_places_of" sPl fP dP
  x : FnP K "_text_of" sTx fX dX
  w : FnP K "_words_of" sWd fW dW
  a : FnP K "_parts_of" sPa fA dA
  o : FnP K "_form_of" sFo fO dO
  gu : mg "is_numeral" = some (.ref fU)
  gcn : mg "_check_names" = some (.ref fCN)
  gcs : mg "_check_sayings" = some (.ref fCS)
  gcb : mg "_check_branches" = some (.ref fCB)
  gy : mg "_is_saying" = some (.ref fY)
  gb : mg "_is_branch" = some (.ref fB)
  gp : mg "_places_of" = some (.ref fP)
  gx : mg "_text_of" = some (.ref fX)
  gw : mg "_words_of" = some (.ref fW)
  ga : mg "_parts_of" = some (.ref fA)
  go : mg "_form_of" = some (.ref fO)
section
variable {P : Program} {w : World} {K : PySem.W.Frag} {mg : Str → Option Value} {base : Heap} {f C : Addr} {fd : FuncData}
variable {fI fN fF fS fU fCN fCS fCB fY fB fP fX fW fA fO : Addr} {dI dN dF dS dU dCN dCS dCB dY dB dP dX dW dA dO : FuncData}
def spIni (K : PySem.W.Frag) (C : Addr) : Sp := fun vs H Q _ => ∃ (H0 : Hp) (p dx : Addr) (u v z : V) (ns : List Str) (ss : List (Str × List Int)) (as : List Arm), vs = [.ref p, u, v, z] ∧ Same H0 H ∧ H0 p = none ∧ H p = some (.ins C dx []) ∧ Dp K H0 u (namesD ns) ∧ Dp K H0 v (saysD ss) ∧ Dp K H0 z (armsD as) ∧ OkP ns ss as ∧
  ∀ H', Same H0 H' → ProgAt K C H' p ns ss as → Q .non H'
theorem same_put {H0 H : Hp} {p : Addr} {o : HO} (s : Same H0 H) (n : H0 p = none) : Same H0 (upd H p o) := fun b u h => by
  rw [upd_ne (ne_of_none h n)]
  exact s _ _ h
theorem scIni : FnScope ["self", "names", "sayings", "branches"] ["self", "names", "sayings", "branches"] (defScope sIni) := ⟨rfl, rfl, rfl, by decide +kernel, rfl, by decide +kernel, by decide +kernel⟩
theorem dp_lenN {H : Hp} {v : V} {ds : List PyData} (h : Dp K H v (.tuple ds)) : ∃ a, v = .ref a ∧ ∃ xs, SqT K H a xs ∧ xs.length = ds.length := by
  obtain ⟨a, xs, e, h1, h2⟩ := rp_tup (.inl h)
  exact ⟨a, e, xs, h1, dp_len h2⟩
theorem ok_ini (F : FunP K "__init__" "Program.__init__" sIni f fd) (T : Mo mg) (X : Txt K mg C) (D : Defs K mg fI fN fF fS fU fCN fCS fCB fY fB fP fX fW fA fO dI dN dF dS dU dCN dCS dCB dY dB dP dX dW dA dO) : FnOk P w K mg base CX0 7 f fd ["self", "names", "sayings", "branches"] (spIni K C) := by
  have GN : FnOk P w K mg base CX0 2 fCN dCN ["names"] (spCN K) := ok_cn D.cn T D.J
  have GS : FnOk P w K mg base CX0 5 fCS dCS ["sayings", "many"] (spCS K) := ok_cs D.cs T D.J D.y D.gy
  have GB : FnOk P w K mg base CX0 6 fCB dCB ["branches", "many", "sayings"] (spCB K) := ok_cb D.cb T D.J D.b D.gb D.p D.gp
  have GP : FnOk P w K mg base CX0 1 fP dP ["sayings", "branches"] (spPl K) := ok_pl D.p T
  have GX : FnOk P w K mg base CX0 2 fX dX ["names", "sayings", "branches"] (spTx K) := ok_tx D.x T D.w D.gw
  have bN : Binds K dCN ["names"] [] := D.cn.bindsN fun _ _ _ _ _ _ us hl => match us, hl with | [_], _ => rfl
  have bS : Binds K dCS ["sayings", "many"] [] := D.cs.bindsN fun _ _ _ _ _ _ us hl => match us, hl with | [_, _], _ => rfl
  have bB : Binds K dCB ["branches", "many", "sayings"] [] := D.cb.bindsN fun _ _ _ _ _ _ us hl => match us, hl with | [_, _, _], _ => rfl
  have bP : Binds K dP ["sayings", "branches"] [] := D.p.bindsN fun _ _ _ _ _ _ us hl => match us, hl with | [_, _], _ => rfl
  have bX : Binds K dX ["names", "sayings", "branches"] [] := D.x.bindsN fun _ _ _ _ _ _ us hl => match us, hl with | [_, _, _], _ => rfl
  refine F.ok scIni (fun vs H Q E h => ?_) (fun cdv A outer s H vs Q E hr h => ?_)
  · obtain ⟨H0, p, dx, u, v, z, ns, ss, as, rfl, _⟩ := h
    rfl
  · obtain ⟨H0, p, dx, u, v, z, ns, ss, as, rfl, s0, n0, hp, hu, hv, hz, ok, k⟩ := h
    have hr4 := hr.mono (show 5 ≤ 6 by decide)
    have hr2 := hr.mono (show 2 ≤ 6 by decide)
    have hr1 := hr.mono (show 1 ≤ 6 by decide)
    refine ⟨_, PSs.nox <| pss_cons (ps_expr (pe_call GN hr2 (by rfl) D.gcn D.cn.kp bN .nil pass0 (pa_cons (pv 1) pa_nil)))
      <| pss_cons (ps_expr (pe_call GS hr4 (by rfl) D.gcs D.cs.kp bS .nil pass0 (pa_cons (pv 2) (pa_cons (pe_callB call_len (by rfl) T.len PySem.boot_len (pa_cons (pv 1) pa_nil)) pa_nil))))
      <| pss_cons (ps_expr (pe_call GB hr (by rfl) D.gcb D.cb.kp bB .nil pass0 (pa_cons (pv 3) (pa_cons (pe_callB call_len (by rfl) T.len PySem.boot_len (pa_cons (pv 1) pa_nil)) (pa_cons (pv 2) pa_nil)))))
      <| pss_cons (ps_fld (pv 0) (pv 1) rfl)
      <| pss_cons (ps_fld (pv 0) (pv 2) rfl)
      <| pss_cons (ps_fld (pv 0) (pv 3) rfl)
      <| pss_cons (ps_fld (pv 0) (pe_call GP hr1 (by rfl) D.gp D.p.kp bP .nil pass0 (pa_cons (pv 2) (pa_cons (pv 3) pa_nil))) rfl)
      <| pss_one (ps_fld (pv 0) (pe_call GX hr2 (by rfl) D.gx D.x.kp bX .nil pass0 (pa_cons (pv 1) (pa_cons (pv 2) (pa_cons (pv 3) pa_nil)))) rfl), ?_⟩
    have okT := ok.t
    have n3 := ok.n.three
    have lnN : ∀ {H' : Hp}, Same H0 H' → ∃ a, u = .ref a ∧ ∃ xs, SqT K H' a xs ∧ xs.length = ns.length := fun s => by
      obtain ⟨a, e, xs, h1, h2⟩ := dp_lenN (dp_same s _ hu)
      exact ⟨a, e, xs, h1, by rw [h2, List.length_map]⟩
    refine ⟨_, rfl, u, ns, rfl, dp_same s0 _ hu, ok.n, fun H1 s1 => ?_⟩
    have s01 := s0.trans s1
    obtain ⟨a, ea, xs, hx, lx⟩ := lnN s01
    subst ea
    refine ⟨_, rfl, _, rfl, _, _, rfl, .inr ⟨_, hx, rfl⟩, ?_⟩
    rw [lx]
    refine ⟨v, ns.length, ss, rfl, by omega, dp_same s01 _ hv, ok.s, fun H2 s2 => ?_⟩
    have s02 := s01.trans s2
    refine ⟨_, rfl, _, rfl, _, _, rfl, .inr ⟨_, Same.seqT s2 hx, rfl⟩, ?_⟩
    rw [lx]
    refine ⟨_, rfl, z, v, ns.length, ss, as, rfl, by omega, dp_same s02 _ hz, dp_same s02 _ hv, ok.s.three, ok.a, fun H3 s3 => ?_⟩
    have s03 := s02.trans s3
    have hp3 := s3 _ _ (s2 _ _ (s1 _ _ hp))
    refine ⟨_, rfl, _, rfl, p, C, dx, _, rfl, hp3, X.cl, X.n, (by decide), ?_⟩
    refine ⟨_, rfl, _, rfl, p, C, dx, _, rfl, upd_same, X.cl, X.s, Nat.lt_of_le_of_lt (putF_len _ _ _) (by decide), ?_⟩
    refine ⟨_, rfl, _, rfl, p, C, dx, _, rfl, upd_same, X.cl, X.b, Nat.lt_of_le_of_lt (putF_len _ _ _) (Nat.lt_of_le_of_lt (Nat.succ_le_succ (putF_len _ _ _)) (by decide)), ?_⟩
    have l3 : (putF ("_branches" : Str) z (putF "_sayings" v (putF "_names" (V.ref a) []))).length ≤ 3 := by
      have h1 := putF_len "_branches" z (putF "_sayings" v (putF "_names" (V.ref a) []))
      have h2 := putF_len "_sayings" v (putF "_names" (V.ref a) [])
      have h3 := putF_len "_names" (V.ref a) []
      simp only [List.length_nil] at h3
      omega
    generalize hG : upd (upd (upd H3 p (.ins C dx (putF "_names" (V.ref a) []))) p (.ins C dx (putF "_sayings" v (putF "_names" (V.ref a) [])))) p (.ins C dx (putF "_branches" z (putF "_sayings" v (putF "_names" (V.ref a) [])))) = H4
    have s04 : Same H0 H4 := by
      rw [← hG]
      exact same_put (same_put (same_put s03 n0) n0) n0
    have hp4 : H4 p = some (.ins C dx (putF "_branches" z (putF "_sayings" v (putF "_names" (V.ref a) [])))) := by
      rw [← hG]
      exact upd_same
    clear hG
    refine ⟨_, rfl, _, rfl, v, z, ss, as, rfl, dp_same s04 _ hv, dp_same s04 _ hz, ok.s.three, ok.a.five, fun d H5 s5 hd => ?_⟩
    refine ⟨_, rfl, p, C, dx, _, rfl, s5 _ _ hp4, X.cl, X.p, by omega, ?_⟩
    have s06 : Same H0 (upd H5 p (.ins C dx (putF "_places" (V.ref d) (putF "_branches" z (putF "_sayings" v (putF "_names" (V.ref a) [])))))) := same_put (s04.trans s5) n0
    have l4 : (putF ("_places" : Str) (V.ref d) (putF "_branches" z (putF "_sayings" v (putF "_names" (V.ref a) [])))).length ≤ 4 := by
      have h1 := putF_len "_places" (V.ref d) (putF "_branches" z (putF "_sayings" v (putF "_names" (V.ref a) [])))
      omega
    refine ⟨_, rfl, _, rfl, _, rfl, .ref a, v, z, ns.length, ns, ss, as, rfl, dp_same s06 _ hu, dp_same s06 _ hv, dp_same s06 _ hz, okT, fun H7 s7 => ?_⟩
    refine ⟨_, rfl, p, C, dx, _, rfl, s7 _ _ upd_same, X.cl, X.t, by omega, ?_⟩
    have s08 : Same H0 (upd H7 p (.ins C dx (pfP (.ref a) v z (.ref d) (.str (textS ns ss as))))) := same_put (s06.trans s7) n0
    refine k _ s08 ⟨dx, .ref a, v, z, d, upd_same, dp_same s08 _ hu, dp_same s08 _ hv, dp_same s08 _ hz, ?_⟩
    exact seqT_ins (s7 _ _ upd_same) (Same.seqT s7 (seqT_ins (s5 _ _ hp4) hd))
def spGet (K : PySem.W.Frag) (C : Addr) (B : List Str → List (Str × List Int) → List Arm → V → Hp → Prop) : Sp := fun vs H Q _ => ∃ (p : Addr) (ns : List Str) (ss : List (Str × List Int)) (as : List Arm), vs = [.ref p] ∧ ProgAt K C H p ns ss as ∧ OkP ns ss as ∧ ∀ v, B ns ss as v H → Q v H
theorem scOf1 {st : Stmt} (h1 : FnScope ["self"] ["self"] (defScope st)) : FnScope ["self"] ["self"] (defScope st) := h1
theorem scLen : FnScope ["self"] ["self"] (defScope sLen) := ⟨rfl, rfl, rfl, by decide +kernel, rfl, by decide +kernel, by decide +kernel⟩
theorem scStr : FnScope ["self"] ["self"] (defScope sStr) := ⟨rfl, rfl, rfl, by decide +kernel, rfl, by decide +kernel, by decide +kernel⟩
theorem scRep : FnScope ["self"] ["self"] (defScope sRep) := ⟨rfl, rfl, rfl, by decide +kernel, rfl, by decide +kernel, by decide +kernel⟩
def reprS (n : Nat) : Str := Str.empty ++ "Program of " ++ numS n ++ " branches"
theorem arms_lenH {H : Hp} {v : V} {as : List Arm} (h : Dp K H v (armsD as)) : ∃ a xs, v = .ref a ∧ SqT K H a xs ∧ xs.length = as.length := by
  obtain ⟨a, xs, e, h1, h2⟩ := rp_tup (.inl h)
  exact ⟨a, xs, e, h1, by rw [dp_len h2, List.length_map]⟩
theorem ok_len (F : FunP K "__len__" "Program.__len__" sLen f fd) (T : Mo mg) (X : Txt K mg C) : FnOk P w K mg base CX0 1 f fd ["self"] (spGet K C fun ns ss as v _ => v = .int as.length) := by
  refine F.ok scLen (fun vs H Q E h => ?_) (fun cdv A outer s H vs Q E hr h => ?_)
  · obtain ⟨p, ns, ss, as, rfl, _⟩ := h
    rfl
  · obtain ⟨p, ns, ss, as, rfl, ⟨dx, a, b, c, d, hp, ha, hb, hc, hd⟩, ok, k⟩ := h
    refine ⟨_, PSs.nox <| pss_one (ps_ret (pe_callB call_len (by rfl) T.len PySem.boot_len (pa_cons (pe_fld (pv 0) rfl) pa_nil))), ?_⟩
    obtain ⟨q, xs, rfl, hq, lq⟩ := arms_lenH hc
    exact ⟨_, rfl, p, C, dx, _, _, rfl, hp, X.cl, X.b, pf_b _ _ _ _ _, _, _, rfl, .inr ⟨_, hq, rfl⟩, by rw [lq]; exact k _ rfl⟩
theorem ok_str (F : FunP K "__str__" "Program.__str__" sStr f fd) (T : Mo mg) (X : Txt K mg C) : FnOk P w K mg base CX0 1 f fd ["self"] (spGet K C fun ns ss as v _ => v = .str (textS ns ss as)) := by
  refine F.ok scStr (fun vs H Q E h => ?_) (fun cdv A outer s H vs Q E hr h => ?_)
  · obtain ⟨p, ns, ss, as, rfl, _⟩ := h
    rfl
  · obtain ⟨p, ns, ss, as, rfl, ⟨dx, a, b, c, d, hp, ha, hb, hc, hd⟩, ok, k⟩ := h
    refine ⟨_, PSs.nox <| pss_one (ps_ret (pe_callTy SkE.call_str_str (by rfl) T.str (by decide +kernel) (pa_cons (pe_fld (pv 0) rfl) pa_nil))), ?_⟩
    exact ⟨_, rfl, p, C, dx, _, _, rfl, hp, X.cl, X.t, pf_t _ _ _ _ _, _, rfl, k _ rfl⟩
theorem ok_rep (F : FunP K "__repr__" "Program.__repr__" sRep f fd) (T : Mo mg) (X : Txt K mg C) : FnOk P w K mg base CX0 1 f fd ["self"] (spGet K C fun ns ss as v _ => v = .str (reprS as.length)) := by
  refine F.ok scRep (fun vs H Q E h => ?_) (fun cdv A outer s H vs Q E hr h => ?_)
  · obtain ⟨p, ns, ss, as, rfl, _⟩ := h
    rfl
  · obtain ⟨p, ns, ss, as, rfl, ⟨dx, a, b, c, d, hp, ha, hb, hc, hd⟩, ok, k⟩ := h
    refine ⟨_, PSs.nox <| pss_one (ps_ret (pe_joined (.cons pe_str <| .cons (pe_fmt (pe_callB call_len (by rfl) T.len PySem.boot_len (pa_cons (pe_fld (pv 0) rfl) pa_nil))) <| .cons pe_str .nil))), ?_⟩
    obtain ⟨q, xs, rfl, hq, lq⟩ := arms_lenH hc
    have a5 := ok.a.five
    have hn : (-1000000 : Int) ≤ (as.length : Int) ∧ (as.length : Int) ≤ 1000000 := by omega
    have l8 := num_len hn
    refine ⟨_, rfl, by decide +kernel, _, rfl, p, C, dx, _, _, rfl, hp, X.cl, X.b, pf_b _ _ _ _ _, _, _, rfl, .inr ⟨_, hq, rfl⟩, ?_⟩
    rw [lq]
    refine .inr ⟨_, rfl, num_log hn, _, rfl, sz9 ?_, _, rfl, sz9 ?_, k _ rfl⟩
    · show (Str.empty ++ "Program of " ++ numS as.length : Str).length ≤ 1000
      rw [len_app, len_app, e0, show ("Program of " : Str).length = 11 by decide +kernel]
      omega
    · show (Str.empty ++ "Program of " ++ numS as.length ++ " branches" : Str).length ≤ 1000
      rw [len_app, len_app, len_app, e0, show ("Program of " : Str).length = 11 by decide +kernel, show (" branches" : Str).length = 9 by decide +kernel]
      omega
end
end Pg
set_option Elab.async false
set_option linter.all false
set_option maxRecDepth 100000
set_option maxHeartbeats 8000000
namespace Pg
open PySem PySem.Spec PyProof.Rows L2 Gd Rl Te Nu TL Ow
abbrev sRd : Stmt := inClass sCls 1
abbrev sGn : Stmt := inClass sCls 2
abbrev sGs : Stmt := inClass sCls 3
abbrev sGb : Stmt := inClass sCls 4
abbrev sGp : Stmt := inClass sCls 5
abbrev sGt : Stmt := inClass sCls 6
section
variable {P : Program} {w : World} {K : PySem.W.Frag} {mg : Str → Option Value} {base : Heap} {f C : Addr} {fd : FuncData}
variable {fI fN fF fS fU fCN fCS fCB fY fB fP fX fW fA fO : Addr} {dI dN dF dS dU dCN dCS dCB dY dB dP dX dW dA dO : FuncData}
theorem sc_names : FnScope ["self"] ["self"] (defScope sGn) := ⟨rfl, rfl, rfl, by decide +kernel, rfl, by decide +kernel, by decide +kernel⟩
theorem ok_gnames (F : FunP K "names" "Program.names" sGn f fd) (X : Txt K mg C) : FnOk P w K mg base CX0 1 f fd ["self"] (spGet K C fun ns ss as v H => Dp K H v (namesD ns)) := by
  refine F.ok sc_names (fun vs H Q E h => ?_) (fun cdv A outer s H vs Q E hr h => ?_)
  · obtain ⟨p, ns, ss, as, rfl, _⟩ := h
    rfl
  · obtain ⟨p, ns, ss, as, rfl, ⟨dx, a, b, c, d, hp, ha, hb, hc, hd⟩, ok, k⟩ := h
    refine ⟨_, PSs.nox <| pss_one (ps_ret (pe_fld (pv 0) rfl)), ?_⟩
    exact ⟨_, rfl, p, C, dx, _, _, rfl, hp, X.cl, X.n, pf_n _ _ _ _ _, k _ ha⟩
theorem sc_sayings : FnScope ["self"] ["self"] (defScope sGs) := ⟨rfl, rfl, rfl, by decide +kernel, rfl, by decide +kernel, by decide +kernel⟩
theorem ok_gsayings (F : FunP K "sayings" "Program.sayings" sGs f fd) (X : Txt K mg C) : FnOk P w K mg base CX0 1 f fd ["self"] (spGet K C fun ns ss as v H => Dp K H v (saysD ss)) := by
  refine F.ok sc_sayings (fun vs H Q E h => ?_) (fun cdv A outer s H vs Q E hr h => ?_)
  · obtain ⟨p, ns, ss, as, rfl, _⟩ := h
    rfl
  · obtain ⟨p, ns, ss, as, rfl, ⟨dx, a, b, c, d, hp, ha, hb, hc, hd⟩, ok, k⟩ := h
    refine ⟨_, PSs.nox <| pss_one (ps_ret (pe_fld (pv 0) rfl)), ?_⟩
    exact ⟨_, rfl, p, C, dx, _, _, rfl, hp, X.cl, X.s, pf_s _ _ _ _ _, k _ hb⟩
theorem sc_branches : FnScope ["self"] ["self"] (defScope sGb) := ⟨rfl, rfl, rfl, by decide +kernel, rfl, by decide +kernel, by decide +kernel⟩
theorem ok_gbranches (F : FunP K "branches" "Program.branches" sGb f fd) (X : Txt K mg C) : FnOk P w K mg base CX0 1 f fd ["self"] (spGet K C fun ns ss as v H => Dp K H v (armsD as)) := by
  refine F.ok sc_branches (fun vs H Q E h => ?_) (fun cdv A outer s H vs Q E hr h => ?_)
  · obtain ⟨p, ns, ss, as, rfl, _⟩ := h
    rfl
  · obtain ⟨p, ns, ss, as, rfl, ⟨dx, a, b, c, d, hp, ha, hb, hc, hd⟩, ok, k⟩ := h
    refine ⟨_, PSs.nox <| pss_one (ps_ret (pe_fld (pv 0) rfl)), ?_⟩
    exact ⟨_, rfl, p, C, dx, _, _, rfl, hp, X.cl, X.b, pf_b _ _ _ _ _, k _ hc⟩
theorem sc_places : FnScope ["self"] ["self"] (defScope sGp) := ⟨rfl, rfl, rfl, by decide +kernel, rfl, by decide +kernel, by decide +kernel⟩
theorem ok_gplaces (F : FunP K "places" "Program.places" sGp f fd) (X : Txt K mg C) : FnOk P w K mg base CX0 1 f fd ["self"] (spGet K C fun ns ss as v H => ∃ d, v = .ref d ∧ SqT K H d ((placesS ss as).map V.str)) := by
  refine F.ok sc_places (fun vs H Q E h => ?_) (fun cdv A outer s H vs Q E hr h => ?_)
  · obtain ⟨p, ns, ss, as, rfl, _⟩ := h
    rfl
  · obtain ⟨p, ns, ss, as, rfl, ⟨dx, a, b, c, d, hp, ha, hb, hc, hd⟩, ok, k⟩ := h
    refine ⟨_, PSs.nox <| pss_one (ps_ret (pe_fld (pv 0) rfl)), ?_⟩
    exact ⟨_, rfl, p, C, dx, _, _, rfl, hp, X.cl, X.p, pf_p _ _ _ _ _, k _ ⟨d, rfl, hd⟩⟩
theorem sc_text : FnScope ["self"] ["self"] (defScope sGt) := ⟨rfl, rfl, rfl, by decide +kernel, rfl, by decide +kernel, by decide +kernel⟩
theorem ok_gtext (F : FunP K "text" "Program.text" sGt f fd) (X : Txt K mg C) : FnOk P w K mg base CX0 1 f fd ["self"] (spGet K C fun ns ss as v H => v = .str (textS ns ss as)) := by
  refine F.ok sc_text (fun vs H Q E h => ?_) (fun cdv A outer s H vs Q E hr h => ?_)
  · obtain ⟨p, ns, ss, as, rfl, _⟩ := h
    rfl
  · obtain ⟨p, ns, ss, as, rfl, ⟨dx, a, b, c, d, hp, ha, hb, hc, hd⟩, ok, k⟩ := h
    refine ⟨_, PSs.nox <| pss_one (ps_ret (pe_fld (pv 0) rfl)), ?_⟩
    exact ⟨_, rfl, p, C, dx, _, _, rfl, hp, X.cl, X.t, pf_t _ _ _ _ _, k _ rfl⟩
/-! ### read -/
def spRd (K : PySem.W.Frag) (C : Addr) : Sp := fun vs H Q _ => ∃ (ns : List Str) (ss : List (Str × List Int)) (as : List Arm), vs = [.ref C, .str (textS ns ss as)] ∧ OkP ns ss as ∧ ∀ p H', Same H H' → ProgAt K C H' p ns ss as → Q (.ref p) H'
abbrev nRd : List Str := ["cls", "text", "names", "sayings", "branches", "program"]
theorem scRd : FnScope nRd ["cls", "text"] (defScope sRd) := ⟨rfl, rfl, rfl, by decide +kernel, rfl, by decide +kernel, by decide +kernel⟩
/-- how a program is made and shown -/
structure Mkr (K : PySem.W.Frag) (C fIni fStr : Addr) (dIni dStr : FuncData) : Prop where
  m : Mk K C fIni
  i : FunP K "__init__" "Program.__init__" sIni fIni dIni
  s : FunP K "__str__" "Program.__str__" sStr fStr dStr
  ds : Dun K C "__str__" fStr
theorem ok_rd {fIni fStr : Addr} {dIni dStr : FuncData} (F : FunP K "read" "Program.read" sRd f fd) (T : Mo mg) (X : Txt K mg C) (D : Defs K mg fI fN fF fS fU fCN fCS fCB fY fB fP fX fW fA fO dI dN dF dS dU dCN dCS dCB dY dB dP dX dW dA dO) (M : Mkr K C fIni fStr dIni dStr) : FnOk P w K mg base CX0 9 f fd ["cls", "text"] (spRd K C) := by
  have GI : FnOk P w K mg base CX0 7 fIni dIni ["self", "names", "sayings", "branches"] (spIni K C) := ok_ini M.i T X D
  have GS : FnOk P w K mg base CX0 1 fStr dStr ["self"] (spGet K C fun ns ss as v _ => v = .str (textS ns ss as)) := ok_str M.s T X
  have GA : FnOk P w K mg base CX0 3 fA dA ["text"] (spPa K) := ok_pa D.a T D.o D.go D.u D.gu
  have bI : Binds K dIni ["self", "names", "sayings", "branches"] [] := M.i.bindsN fun _ _ _ _ _ _ us hl => match us, hl with | [_, _, _, _], _ => rfl
  have bS : Binds K dStr ["self"] [] := M.s.bindsN fun _ _ _ _ _ _ us hl => match us, hl with | [_], _ => rfl
  have bA : Binds K dA ["text"] [] := D.a.bindsN fun _ _ _ _ _ _ us hl => match us, hl with | [_], _ => rfl
  refine F.ok scRd (fun vs H Q E h => ?_) (fun cdv A outer s H vs Q E hr h => ?_)
  · obtain ⟨ns, ss, as, rfl, _⟩ := h
    rfl
  · obtain ⟨ns, ss, as, rfl, ok, k⟩ := h
    have hr3 := hr.mono (show 3 ≤ 8 by decide)
    refine ⟨_, PSs.nox <| pss_cons (ps_if (pt_not (pt_val (pe_callB (call_isD (T := "str")) (by rfl) T.isi boot_isinstance (pa_cons (pv 1) (pa_cons (pe_bltn (v := .ty "str") (by rfl) T.str (by decide +kernel) rfl) pa_nil))))) (pss_one ps_never) pss_nil)
      <| pss_cons (ps_asg (pe_call GA hr3 (by rfl) D.ga D.a.kp bA .nil pass0 (pa_cons (pv 1) pa_nil)) (pg_tup (by rfl) (pgs_cons (pg_name (i := 2) scRd.nd rfl (.inl rfl)) (pgs_cons (pg_name (i := 3) scRd.nd rfl (.inl rfl)) (pgs_cons (pg_name (i := 4) scRd.nd rfl (.inl rfl)) pgs_nil)))))
      <| pss_cons (ps_try_thru0 (pss_one (ps_set (i := 5) scRd.nd rfl (.inl rfl) (pe_makeL (i := 0) M.m GI hr rfl (.inl rfl) bI .nil pass0 (pa_cons (pv 2) (pa_cons (pv 3) (pa_cons (pv 4) pa_nil)))))))
      <| pss_cons (ps_if (pt_cmpR op_ne (pe_callTy (call_strO GS hr3 bS M.ds) (by rfl) T.str (by decide +kernel) (pa_cons (pv 5) pa_nil)) (pv 1) (nomark _)) (pss_one ps_never) pss_nil)
      <| pss_one (ps_ret (pv 5)), ?_⟩
    refine ⟨_, rfl, _, .str (textS ns ss as), _, rfl, .inl (.str _), kit_str _, _, rfl, ?_⟩
    refine iteF ?_
    refine ⟨_, rfl, ns.length, ns, ss, as, rfl, ok.n.one, ok.t, fun p a b c H1 s1 hp ha hb hc => ?_⟩
    refine ⟨p, _, rfl, hp, rfl, _, _, rfl, _, _, rfl, _, _, rfl, rfl, ?_⟩
    refine ⟨rfl, _, rfl, _, rfl, _, rfl, fun x dx nx ndx nex => ?_⟩
    have s2 : Same H1 (upd (upd H1 dx (.own x)) x (.ins C dx [])) := fun q o e => by
      rw [upd_ne (ne_of_none e nx), upd_ne (ne_of_none e ndx)]
      exact e
    refine ⟨H1, x, dx, _, _, _, ns, ss, as, rfl, s2, nx, upd_same, ha, hb, hc, ok, fun H3 s3 g => ⟨rfl, ?_⟩⟩
    obtain ⟨dx3, a3, b3, c3, d3, hx3, rest⟩ := g
    refine ⟨_, rfl, x, dx3, _, rfl, hx3, x, ns, ss, as, rfl, ⟨dx3, a3, b3, c3, d3, hx3, rest⟩, ok, fun v ev => ⟨⟨_, ev⟩, ?_⟩⟩
    subst ev
    refine ⟨_, rfl, rfl, _, rfl, ?_⟩
    refine iteNS rfl ?_
    exact ⟨_, rfl, k x H3 (s1.trans s3) ⟨dx3, a3, b3, c3, d3, hx3, rest⟩⟩
end
end Pg
set_option Elab.async false
set_option linter.all false
set_option maxRecDepth 100000
set_option maxHeartbeats 8000000
namespace Hy
open PySem PySem.Spec PyProof.Rows L2 L2H Gd Rl Fx
/-! own errors over an own base, raised; the caught one asked; defs called where one is handled -/
section
variable {X : Cx} {pins : List (Addr × Obj)} {σ : L2.St} {H : Hp} {s : Shared} {B newId initId : String} {bmB : List Value} {C W fI : Addr} {f : Str} {k : Nat}
/-- an error is made: what stands then -/
theorem made_raw (Z : Root B newId initId bmB) (T : Err1 X.prog X.K X.mg newId initId bmB C W fI f) (hr : Room (k + 1) X.A) (I : Inv X pins σ H s) {y : V} {u : Value} (ry : RelV y u) {P : Value → Shared → Prop}
    (h : ∀ (h' : Heap) (tk' : Nat) (a d t1 : Addr) (mA : Str → Option Value), (∀ b o, s.heap.get? b = some o → h'.get? b = some o) → s.heap.objs.size ≤ a → s.heap.objs.size ≤ d → d ≠ a → h'.get? a = some (excD C t1 (some d)) → h'.Ns1 d mA →
      (∀ g, RelO (([(f, y)] : List (Str × V)).lookup g) (mA g)) → P (.ref a) { s with heap := h', toks := tk' }) :
    wpAny (model X.prog X.w) X.A (call (.ref C) [u] []) P X.xe s := by
  obtain ⟨nm, q, N, bs, sn, sub, ab, col, dd, k0, k1, k2, k3, k5, hC⟩ := T.t.cls
  obtain ⟨hp, g, dr, tk, os⟩ := s
  have kk : ∀ b o, hp.get? b = some o → ((hp.push (PySem.W.kdv_tup [u])).push (PySem.HandSPX.excO C hp.objs.size)).get? b = some o := fun b o e => Heap.get?_push_of_some _ (Heap.get?_push_of_some _ e)
  have hget : ((hp.push (PySem.W.kdv_tup [u])).push (PySem.HandSPX.excO C hp.objs.size)).get? (hp.objs.size + 1) = some (PySem.HandSPX.excO C hp.objs.size) := by heap_get
  have hz : [u].length ≤ sizeLine := by
    rw [sizeLine_eq]
    show 1 ≤ 16777216
    decide
  have nb : X.base.get? (hp.objs.size + 1) = none := by
    cases e : X.base.get? (hp.objs.size + 1) with
    | none => rfl
    | some o =>
      have z : hp.get? (hp.objs.size + 1) = some o := I.bk _ _ e
      exact absurd (Nat.lt_of_succ_lt (Heap.lt_size z)) (Nat.lt_irrefl _)
  refine wpAny_call (kw_call Z.fb (hT_of Z W) (I.kIn _ _ hC) (PySem.W.looks_findIn I.kIn T.t.iC) (fun self => PySem.W.bind_fn I.kIn self T.t.tI) hz ?_)
  refine init1 (s := ⟨(hp.push (PySem.W.kdv_tup [u])).push (PySem.HandSPX.excO C hp.objs.size), g, dr, tk, os⟩) Z T.t I.ok.mod (fun b o e => kk b o (I.bk b o e)) T.ff T.no T.n (.inl rfl) hget nb ?_ fun h' tk' dx t1 k1 e1 dn dne hn => ?_
  · rw [make_depth]
    have := hr.dp
    omega
  · have old : ∀ b o, hp.get? b = some o → h'.get? b = some o := fun b o e => k1 b o (Nat.ne_of_lt (Nat.lt_succ_of_lt (Heap.lt_size e))) (kk b o e)
    have sz : hp.objs.size ≤ dx := by
      have z : ((hp.push (PySem.W.kdv_tup [u])).push (PySem.HandSPX.excO C hp.objs.size)).objs.size ≤ dx := dn
      rw [Heap.size_push, Heap.size_push] at z
      omega
    exact ⟨rfl, h _ _ _ _ _ _ old (Nat.le_succ _) sz dne e1 hn (relO_put (fs := []) (mA := fun _ => none) ry fun g => True.intro)⟩
/-- such an error as one that is raised: it is let go, its dict stands -/
theorem made_mk (I : Inv X pins σ H s) (rz : Raises X (.ref C)) {h' : Heap} {tk' : Nat} {a d t1 : Addr} {mA : Str → Option Value} {fs : List (Str × V)} {Q : XK} (old : ∀ b o, s.heap.get? b = some o → h'.get? b = some o) (sa : s.heap.objs.size ≤ a) (sd : s.heap.objs.size ≤ d) (ne : d ≠ a)
    (ea : h'.get? a = some (excD C t1 (some d))) (hn : h'.Ns1 d mA) (rel : ∀ g, RelO (fs.lookup g) (mA g)) (q : ∀ d, H d = none → Q (.ref C) (some d) (upd H d (.xd fs))) : MkP X pins σ Q (.ref a) { s with heap := h', toks := tk' } := by
  obtain ⟨G, g1, g2⟩ := restrict h' fun b => decide (b ≠ a)
  have gk : ∀ b, b ≠ a → G.get? b = h'.get? b := fun b hb => g1 b (decide_eq_true hb)
  have ge : G.get? a = none := g2 a (by simp)
  have na : H a = none := I.hok.fresh sa
  have nd : H d = none := I.hok.fresh sd
  have kG : ∀ b o, G.get? b = some o → h'.get? b = some o := fun b o e => by
    rcases Classical.em (b = a) with z | z
    · rw [z, ge] at e
      cases e
    · exact (gk b z).symm.trans e
  have oG : ∀ b o, s.heap.get? b = some o → G.get? b = some o := fun b o e => (gk b (Nat.ne_of_lt (Nat.lt_of_lt_of_le (Heap.lt_size e) sa))).trans (old b o e)
  have J : Inv X pins σ (upd H d (.xd fs)) { s with heap := G, toks := tk' } := by
    refine I.laid (t' := tk') (a := d) (o := .xd fs) (h' := G) oG sd ?_
    obtain ⟨o, es, ep, e1, e2⟩ := hn
    exact ⟨mA, ⟨o, es, ep, (gk d ne).trans e1, e2⟩, rel⟩
  exact ⟨a, _, _, { s with heap := G, toks := tk' }, _, .ref C, some d, rfl, J, kG, ge, ea, ⟨rfl, rfl⟩, rfl, rfl, by rw [upd_ne (Ne.symm ne)]; exact na, rfl, I.bare, rz, q d nd⟩
theorem pmk_err {x : Str} {e : Expr} {te : TE} {p pos : Pos} (Z : Root B newId initId bmB) (T : Err1 X.prog X.K X.mg newId initId bmB C W fI f) (rz : Raises X (.ref C)) (hr : Room (k + 1) X.A) (gC : X.mg x = some (.ref C)) (hg : Gl X x) (he : PE X e te)
    (hs : starEach [e] X.env = (false, eval e X.env) :: starEach [] X.env := by rfl) (hdb : (x == ("__debug__" : Str)) = false := by decide) :
    PMk X (.Call (.Name x p) [e] [] pos) (fun σ H Q => te σ H fun y H1 => ∀ d, H1 d = none → Q (.ref C) (some d) (upd H1 d (.xd [(f, y)]))) := by
  intro pins s σ H Q I h
  refine wpAny_Call_Name_kw (ld_glob I hg gC ?_ hdb)
  refine PySem.W.callWith_K (h₀ := X.base) I.ok.mod.kin T.t.kC ?_ hs (by rfl)
  rw [hs]
  refine Calls.spliced_cons (thn (he.run pins s σ H _ I h) fun u s1 ⟨y, H1, I1, r1, q1⟩ => ?_)
  refine Calls.spliced_nil ⟨I1.kIn, ?_⟩
  exact made_raw Z T hr I1 r1 fun h' tk' a d t1 mA old sa sd ne ea hn rel => made_mk I1 rz old sa sd ne ea hn rel q1
end
/-! ### the caught error is asked -/
section
variable {X : Cx} {pins : List (Addr × Obj)} {σ : L2.St} {H : Hp} {s : Shared} {a C dd : Addr} {oe : Obj}
theorem inst_pin {fs : List (Str × V)} (I : Inv X pins σ H s) (hp : (a, oe) ∈ X.pn) (hz : Zc (.ref C) (some dd) oe) (hf : ∃ vs, oe.data = .fields vs) (ed : H dd = some (.xd fs)) :
    ∃ (od : Obj) (mA : Str → Option Value), PySem.W.InstAt s.heap a oe C (some od) ∧ (∀ n, PySem.W.lookIn n od = some (mA n)) ∧ ∀ g, RelO (fs.lookup g) (mA g) := by
  obtain ⟨ha, _⟩ := I.pin (a, oe) (List.mem_append_left _ hp)
  obtain ⟨vs, hd⟩ := hf
  have hx : ObjOk X.prog X.w H s.heap dd (.xd fs) := I.hok dd _ ed
  obtain ⟨mA, hns, hr⟩ := hx
  obtain ⟨od, ho, hl⟩ := lookIn_ns hns
  exact ⟨od, mA, ⟨ha, hz.1, by unfold PySem.W.notCls; rw [hd] <;> rfl, by rw [hz.2]; exact ho⟩, hl, hr⟩
/-- isinstance(e, c), e the error that is handled -/
def rIsP (K : PySem.W.Frag) (a C dd : Addr) : List V → Hp → VK → Prop := fun xs H Q => ∃ (c : V) (u : Value) (b : Bool) (fs : List (Str × V)), xs = [.ref a, c] ∧ ClsV c u ∧ H dd = some (.xd fs) ∧ PySem.W.kitOne K (.ref C) u = some b ∧ Q (.bl b) H
theorem call_isP (hp : (a, oe) ∈ X.pn) (hz : Zc (.ref C) (some dd) oe) (hf : ∃ vs, oe.data = .fields vs) (T : IsC X.K C) : CallR X (.builtin "isinstance") (rIsP X.K a C dd) := by
  intro pins s σ H xs us Q I r h
  obtain ⟨c, u, b, fs, rfl, kc, ed, e, q⟩ := h
  obtain ⟨u1, u2, rfl, r1, r2⟩ := vals2 r
  have e2 := kc.eq r2
  subst e2
  cases (show u1 = Value.ref a from r1)
  obtain ⟨od, mA, J, _⟩ := inst_pin I hp hz hf ed
  exact PySem.W.kia_one (PySem.W.kitx_exc (gt := none) T.cl T.ga T.gg T.ex T.ha T.hn T.ht T.hm) I.kIn J e (fun z => nomatch z) fun tk => ⟨.bl b, H, I.tok tk, rfl, q⟩
/-- e.f, e the error that is handled -/
def tXp (a dd : Addr) (f : Str) (te : TE) : TE := fun σ H Q => te σ H fun x H1 => ∃ (fs : List (Str × V)) (v : V), x = .ref a ∧ H1 dd = some (.xd fs) ∧ fs.lookup f = some v ∧ Q v H1
theorem pe_xp {e : Expr} {te : TE} {pos : Pos} {n : Str} (T : XfC X.K C) (hno : PySem.W.findIn X.K (.ref C) n = some none) (hp : (a, oe) ∈ X.pn) (hz : Zc (.ref C) (some dd) oe) (hf : ∃ vs, oe.data = .fields vs) (he : PE X e te)
    (hb : attributeBase e n X.env (eval e X.env) = eval e X.env := by rfl) : PE X (.Attribute e n pos) (tXp a dd n te) := by
  refine ⟨fun pins s σ H Q I h => ?_⟩
  refine attr_of hb (thn (he.run pins s σ H _ I h) fun u s1 hh => ?_)
  obtain ⟨x, H1, I1, rx, fs, v, ex, ed, l, q⟩ := hh
  subst ex
  obtain rfl : u = Value.ref a := rx
  obtain ⟨od, mA, J, hl, hr⟩ := inst_pin I1 hp hz hf ed
  obtain ⟨u, hu, ru⟩ := RelO.some_of (v := v) (o := mA n) (by rw [← l]; exact hr n)
  exact HandSPX.exc_get I1.kIn J T.ga T.gg T.exC (PySem.W.findObj_own T.hdC hno rfl (by rw [hl, hu])) (handed_of ru) ⟨v, H1, I1.tok _, ru, q⟩
end
/-! ### a def called where an error is handled -/
structure FnQ (P : Program) (w : World) (K : PySem.W.Frag) (mg : Str → Option Value) (base : Heap) (k : Nat) (f : Addr) (fd : FuncData) (ps : List Str) (sp : Addr → Value → Option Addr → Sp) : Prop where
  len : ∀ a c d vs H Q E, sp a c d vs H Q E → vs.length = ps.length
  run : ∀ (A : Around) (outer : List Env) (s : Shared) (H : Hp) (args : Args) (us : List Value) (vs : List V) (Q : VK) (E : XK) (a : Addr) (oe : Obj) (c : Value) (d : Option Addr), A.guards = some [] → RoomH k A → PinOk outer H s (a, oe) → Zc c d oe → (∃ fs, oe.data = .fields fs) →
    Env0 P w K mg base A outer s H → BindsTo s fd args (ps.zip us) → Vals vs us → sp a c d vs H Q E → codeAny (model P w) A (.call (.ref f) args) (CR CX0 outer P w H s Q E) s
section
variable {P : Program} {w : World} {K : PySem.W.Frag} {mg : Str → Option Value} {base : Heap} {x qual : Str} {params : Arguments} {body : List Stmt} {scope : Scope} {dvs : List V} {kws : List (Str × V)} {f : Addr} {fd : FuncData}
theorem okQ {N ps : List Str} {k : Nat} {sp : Addr → Value → Option Addr → Sp} (F : FunD K x qual params body scope dvs kws f fd) (S : FnScope N ps scope) (len : ∀ a c d vs H Q E, sp a c d vs H Q E → vs.length = ps.length)
    (hbody : ∀ (cdv : Value) (A : Around) (outer : List Env) (s : Shared) (H : Hp) (vs : List V) (Q : VK) (E : XK) (a : Addr) (oe : Obj) (c : Value) (d : Option Addr), (A.deeper (envOfC qual scope s.heap.objs.size f cdv)).guards = some [] → RoomH k (A.deeper (envOfC qual scope s.heap.objs.size f cdv)) → Zc c d oe → (∃ fs, oe.data = .fields fs) → sp a c d vs H Q E →
      ∃ t, PSs (cxH CX0 P w K mg base N qual scope f cdv A outer s H E (a, oe)) body t ∧ t { nx := fun _ H' => Q .non H', rt := Q } (L2.start N vs) H) : FnQ P w K mg base (k + 1) f fd ps sp := by
  obtain ⟨oc, od, dV, kV, doc, pm, an, cdv, ct, osl, rfl, lk, hcd, _, _⟩ := F.ex
  refine ⟨len, fun A outer s H args us vs Q E a oe c d hgd hr hpin hz hf e0 hb r hsp => ?_⟩
  have hlv := len _ _ _ _ _ _ _ hsp
  have KX : K.In s.heap := e0.mod.kin.keeps fun b o e => (e0.bs b o e).1
  have lim : s.heap.NoLimit := e0.mod.nolimit.keeps fun b o e => (e0.bs b o e).1
  have hkd : ∀ y ∈ ps.zip us, scope.names.lookup y.1 = some .local ∨ (scope.names.lookup y.1 = some .cell ∧ ((cellsFrom (s.heap.objs.size + 1) scope.names []).lookup y.1).isSome = true) := fun ⟨n, v⟩ hy => by
    rcases S.par n (List.of_mem_zip hy).1 with q | q
    · exact .inl q
    · exact .inr ⟨q, PySem.W.cellsFrom_some _ _ _ (.inl q)⟩
  refine codeAny_call_function hr.depth (KX _ _ lk) rfl S.co S.gen rfl (PySem.W.codeRec_of KX hcd) (hb _ _ _ _ ?_)
  refine wpAny_newFunctionEnv_cells S.kind hkd fun env he s1 z => ?_
  subst he
  refine ⟨lim.keeps z.toInCall.keep, codeAny_func ?_⟩
  obtain ⟨t, ht, hq⟩ := hbody cdv A outer s H vs Q E a oe c d (deeper_guards hgd) (hr.deeper _) hz hf hsp
  have I : Inv (cxH CX0 P w K mg base N qual scope f cdv A outer s H E (a, oe)) [] (L2.start N vs) H s1 := inv_startH S hpin e0 hlv r z
  refine wpAny_mono (ht.run [] s1 (L2.start N vs) H _ I hq) (fun fl s' hs => ?_) fun e s' hs => hs
  cases fl with
  | ret u =>
    obtain ⟨v, σ', H', J, rv, q⟩ := hs
    exact ⟨v, H', J.os, J.bare, J.base, J.hok, rv, q⟩
  | next =>
    obtain ⟨σ', H', J, q⟩ := hs
    exact ⟨V.non, H', J.os, J.bare, J.base, J.hok, rfl, q⟩
  | brk =>
    obtain ⟨_, _, _, q⟩ := hs
    exact q.elim
  | cont =>
    obtain ⟨_, _, _, q⟩ := hs
    exact q.elim
end
section
variable {X : Cx} {k : Nat} {f : Addr} {fd : FuncData} {ps : List Str} {sp : Addr → Value → Option Addr → Sp} {x : Str} {p pos : Pos} {e : Expr} {es : List Expr} {t : TA} {a : Addr} {oe : Obj} {c : Value} {d : Option Addr}
theorem pe_callQ (F : FnQ X.prog X.w X.K X.mg X.base k f fd ps sp) (hgd : X.A.guards = some []) (hr : RoomH k X.A) (hp : (a, oe) ∈ X.pn) (hz : Zc c d oe) (hf : ∃ vs, oe.data = .fields vs) (hg : Gl X x) (hm : X.mg x = some (.ref f)) (hk : PySem.W.keepIn X.K (.ref f) = true) (hb : Binds X.K fd ps [])
    (ha : PA X (e :: es) t) (hdb : (x == ("__debug__" : Str)) = false := by decide) (he : starEach (e :: es) X.env = (false, eval e X.env) :: starEach es X.env := by rfl) (hpl : (backTo pos (starEach es X.env)).any (·.1) = false := by rfl) :
    PE X (.Call (.Name x p) (e :: es) [] pos) (tCall (sp a c d) [] E0 t) := by
  refine ⟨fun pins s σ H Q I h => ?_⟩
  refine wpAny_Call_Name_kw (ld_glob I hg hm ?_ hdb)
  refine PySem.W.callWith_K (h₀ := X.base) I.ok.mod.kin hk (thn (ha.run pos pins s σ H _ I h) fun us s1 ⟨vs, H1, I1, r, q⟩ => ⟨I1.kIn, ?_⟩) he hpl
  have r2 : Vals (vs ++ []) (us ++ []) := r.append .nil
  have hl : (us ++ []).length = ps.length := by
    rw [← r2.length]
    exact F.len _ _ _ _ _ _ _ q
  have P1 := I1.pin (a, oe) (List.mem_append_left _ hp)
  have hpin : PinOk X.stack H1 s1 (a, oe) := ⟨P1.1, P1.2.1, fun hm => (List.mem_cons.mp (I1.stkSub a hm)).elim P1.2.2.1 P1.2.2.2.1, P1.2.2.2.2⟩
  refine wpAny_call (codeAny_mono (F.run X.A X.stack s1 H1 ⟨us, []⟩ (us ++ []) (vs ++ []) Q E0 a oe c d hgd hr hpin hz hf I1.env0 (hb s1 us I1.kIn hl) r2 q) fun r s' hq => ?_)
  cases r with
  | error er => exact hq.elim
  | ok fl =>
    cases fl with
    | ret u => exact I1.after hq
    | next => exact hq.elim
    | brk => exact hq.elim
    | cont => exact hq.elim
end
end Hy
set_option Elab.async false
set_option linter.all false
set_option maxRecDepth 100000
set_option maxHeartbeats 8000000
namespace Pg
open PySem PySem.Spec PyProof.Rows L2 Gd Rl Te Nu TL Hy Fx
abbrev sIx : Stmt := top 28
abbrev sCk : Stmt := top 39
abbrev sAt : Stmt := inClass sCls 7
/-- a def from which errors go out -/
theorem okX {P : Program} {w : World} {K : PySem.W.Frag} {mg : Str → Option Value} {base : Heap} {x qual : Str} {params : Arguments} {body : List Stmt} {scope : Scope} {dvs : List V} {kws : List (Str × V)} {f : Addr} {fd : FuncData} {N ps : List Str} {k : Nat} {sp : Sp}
    (F : FunD K x qual params body scope dvs kws f fd) (S : FnScope N ps scope) (len : ∀ vs H Q E, sp vs H Q E → vs.length = ps.length)
    (hbody : ∀ (cdv : Value) (A : Around) (outer : List Env) (s : Shared) (H : Hp) (vs : List V) (Q : VK) (E : XK), Room k (A.deeper (envOfC qual scope s.heap.objs.size f cdv)) → sp vs H Q E →
      ∃ t, PSs (cxOf (L2.CX P w) P w K mg base N qual scope f cdv A outer s H E) body t ∧ t { nx := fun _ H' => Q .non H', rt := Q } (L2.start N vs) H) : FnOk P w K mg base (L2.CX P w) (k + 1) f fd ps sp := by
  obtain ⟨oc, od, dV, kV, doc, pm, an, cdv, ct, osl, rfl, lk, hcd, _, _⟩ := F.ex
  exact fn_of lk hcd S len fun A outer s H vs Q E hr hsp => hbody cdv A outer s H vs Q E hr hsp
def ixB (m : Nat) : PyData → Bool
  | .int i => decide (0 ≤ i) && decide (i < (m : Int))
  | _ => false
/-- what is known of an own error of one field -/
structure ErrK (prog : Program) (K : PySem.W.Frag) (mg : Str → Option Value) (x : Str) (C W fI : Addr) (f : Str) : Prop where
  e : Err1 prog K mg "ValueError.__new__" "ValueError.__init__" [.type "ValueError", .type "Exception", .type "BaseException", .type "object"] C W fI f
  g : mg x = some (.ref C)
  sub : PySem.W.subIn K (.ref C) (.type "BaseException") = some true
  ty : PySem.W.typeIn K (.ref C) = some (.type "type")
section
variable {P : Program} {w : World} {K : PySem.W.Frag} {mg : Str → Option Value} {base : Heap} {f C : Addr} {fd : FuncData}
theorem scIx : FnScope ["value", "many"] ["value", "many"] (defScope sIx) := ⟨rfl, rfl, rfl, by decide +kernel, rfl, by decide +kernel, by decide +kernel⟩
theorem ok_ix {fI : Addr} {dI : FuncData} (F : FnP K "is_index" sIx f fd) (T : Mo mg) (FI : FnP K "is_integer" sInt fI dI) (gI : mg "is_integer" = some (.ref fI)) : FnOk P w K mg base CX0 2 f fd ["value", "many"] (spJ2 K ixB) := by
  have GI : FnOk P w K mg base CX0 1 fI dI ["value"] (spJ K intB) := ok_int FI T
  have bI : Binds K dI ["value"] [] := FI.bindsN fun _ _ _ _ _ _ us hl => match us, hl with | [_], _ => rfl
  refine F.ok scIx (fun vs H Q E h => ?_) (fun cdv A outer s H vs Q E hr h => ?_)
  · obtain ⟨v, d, m, rfl, _⟩ := h
    rfl
  · obtain ⟨v, d, m, rfl, hd, ho, k⟩ := h
    refine ⟨_, PSs.nox <| pss_one (ps_ret (pe_and (pe_call GI hr (by rfl) gI FI.kp bI .nil pass0 (pa_cons (pv 0) pa_nil)) (pe_one (pe_chain op_le op_lt pe_int (pv 0) (pv 1))))), ?_⟩
    refine ⟨_, rfl, v, d, rfl, hd, ho, fun H' s => ?_⟩
    have k0 := k H' s
    cases d with
    | int i =>
      have hv : v = V.int i := by
        rcases hd with hd | ⟨a, kvs, ds, _, _, _, e⟩
        · cases hd
          rfl
        · cases e
      subst hv
      rw [show ixB m (.int i) = (decide ((0 : Int) ≤ i) && decide (i < (m : Int))) from rfl] at k0
      refine ⟨true, rfl, iteT ?_⟩
      refine ⟨_, rfl, _, _, rfl, rfl, _, rfl, ?_⟩
      by_cases h1 : (0 : Int) ≤ i
      · rw [decide_eq_true h1] at k0 ⊢
        rw [Bool.true_and] at k0
        exact ⟨_, rfl, _, _, rfl, rfl, k0⟩
      · rw [decide_eq_false h1] at k0 ⊢
        exact k0
    | bool b => exact ⟨false, rfl, iteF k0⟩
    | none => exact ⟨false, rfl, iteF k0⟩
    | str z => exact ⟨false, rfl, iteF k0⟩
    | list ds => exact ⟨false, rfl, iteF k0⟩
    | tuple ds => exact ⟨false, rfl, iteF k0⟩
    | dict ds => exact ⟨false, rfl, iteF k0⟩
/-- an index of the program, or an error with the value -/
def spCk (K : PySem.W.Frag) (C CE : Addr) : Sp := fun vs H Q E => ∃ (p : Addr) (v : V) (d : PyData) (ns : List Str) (ss : List (Str × List Int)) (as : List Arm), vs = [.ref p, v] ∧ ProgAt K C H p ns ss as ∧ OkP ns ss as ∧ Rp K H v d ∧ okD d = true ∧
  (ixB as.length d = true → ∀ H', Same H H' → Q .non H') ∧ (ixB as.length d = false → ∀ H1 dd, Same H H1 → H1 dd = none → E (.ref CE) (some dd) (upd H1 dd (.xd [("given", v)])))
theorem scCk : FnScope ["program", "index"] ["program", "index"] (defScope sCk) := ⟨rfl, rfl, rfl, by decide +kernel, rfl, by decide +kernel, by decide +kernel⟩
theorem ok_ck {CE WE fE fX p3 g3 : Addr} {dX d3 : FuncData} (F : FnP K "check_index" sCk f fd) (T : Mo mg) (X : Txt K mg C) (FX : FnP K "is_index" sIx fX dX) (gX : mg "is_index" = some (.ref fX)) (GX : FnOk P w K mg base CX0 2 fX dX ["value", "many"] (spJ2 K ixB))
    (P3 : PropOf K C "branches" p3 g3) (F3 : FunP K "branches" "Program.branches" sGb g3 d3) (XE : ErrK P K mg "InvalidIndex" CE WE fE "given") : FnOk P w K mg base (L2.CX P w) 4 f fd ["program", "index"] (spCk K C CE) := by
  have H3 : FnOk P w K mg base CX0 1 g3 d3 ["self"] (spGet K C fun ns ss as v H => Dp K H v (armsD as)) := ok_gbranches F3 X
  have b3 : Binds K d3 ["self"] [] := F3.bindsN fun _ _ _ _ _ _ us hl => match us, hl with | [_], _ => rfl
  have bX : Binds K dX ["value", "many"] [] := FX.bindsN fun _ _ _ _ _ _ us hl => match us, hl with | [_, _], _ => rfl
  refine okX F scCk (fun vs H Q E h => ?_) (fun cdv A outer s H vs Q E hr h => ?_)
  · obtain ⟨p, v, d, ns, ss, as, rfl, _⟩ := h
    rfl
  · obtain ⟨p, v, d, ns, ss, as, rfl, hp, ok, hd, ho, kY, kN⟩ := h
    have hr2 := hr.mono (show 2 ≤ 3 by decide)
    refine ⟨_, pss_one (ps_if (pt_not (pt_val (pe_call GX hr2 (by rfl) gX FX.kp bX .nil pass0 (pa_cons (pv 1) (pa_cons (pe_callB call_len (by rfl) T.len PySem.boot_len (pa_cons (pe_prop (pv 0) X.cl P3 H3 hr2 b3 .nil pass0 (by rfl)) pa_nil)) pa_nil)))))
      (pss_one (ps_raise rfl (takes_of rfl rfl rfl rfl) (pmk_err rootV XE.e (raises_own XE.sub XE.ty) hr2 XE.g (by rfl) (pv 1)))) pss_nil), ?_⟩
    obtain ⟨dx, _, _, _, _, hx, _⟩ := id hp
    refine ⟨_, rfl, _, rfl, p, dx, _, rfl, hx, p, ns, ss, as, rfl, hp, ok, fun v1 h1 => ?_⟩
    obtain ⟨c, cs, rfl, hc, lc⟩ := arms_lenH h1
    refine ⟨_, _, rfl, .inr ⟨_, hc, rfl⟩, ?_⟩
    rw [lc]
    refine ⟨v, d, as.length, rfl, hd, ho, fun H' s => ?_⟩
    cases hb : ixB as.length d with
    | true =>
      exact ⟨_, rfl, iteF (kY hb H' s)⟩
    | false =>
      exact ⟨_, rfl, iteT ⟨_, rfl, fun dd nd => kN hb H' dd s nd⟩⟩
end
end Pg
set_option Elab.async false
set_option linter.all false
set_option maxRecDepth 100000
set_option maxHeartbeats 8000000
namespace Te
open PySem PySem.Spec PyProof.Rows L2 Gd Rl RZ
theorem walk_zipT {K : PySem.W.Frag} {a b : Addr} {xs ys : List V} {n : Nat} (hn : n = min xs.length ys.length) : Walk (ItzT K a b) n (fun H => SqT K H a xs ∧ SqT K H b ys) (YPair (fun i => xs[i]?) (fun i => ys[i]?)) := by
  subst hn
  refine ⟨fun i _ hi q => ?_, fun _ q => ⟨xs, ys, q.1, q.2, by omega⟩, fun i H v H' _ q y => ?_⟩
  · have h1 : i < xs.length := by omega
    have h2 : i < ys.length := by omega
    exact ⟨xs, ys, xs[i], ys[i], q.1, q.2, by simp [h1], by simp [h2]⟩
  · obtain ⟨T, x, z, h1, h2, h3, h4, h5⟩ := y
    exact ⟨T, x, z, h1, h2, h3, h4 xs q.1, h5 ys q.2⟩
end Te
namespace Pg
open PySem PySem.Spec PyProof.Rows L2 Gd Rl Te Nu RZ StX
abbrev sWei : Stmt := top 34
abbrev sVal : Stmt := top 35
/-! ### the value of a form at a point -/
theorem mulI : ∀ {X : Cx}, OpR X (binaryOp .Mult) (rI (fun i j => IntMulOk i j) fun i j => .int (i * j)) := fun {X} => opI fun _ _ _ _ _ _ _ hc q => mul_int q hc
def Bt (ns : List Int) : Prop := ∀ z ∈ ns, Builtin.Int.intBits z ≤ 1000000
def sumS (g xs : List Int) (n : Nat) : Int := ((List.range n).map fun i => g.getD i 0 * xs.getD i 0).sum
def valS (g xs : List Int) : Int := sumS g xs xs.length + g.getD xs.length 0
theorem sum_snoc (l : List Int) (x : Int) : (l ++ [x]).sum = l.sum + x := by simp
theorem sumS_one (g xs : List Int) : sumS g (xs ++ [1]) (xs.length + 1) = valS g xs := by
  unfold valS sumS
  rw [List.range_succ, List.map_append, List.map_singleton, sum_snoc]
  congr 1
  · congr 1
    apply List.map_congr_left
    intro i hi
    have h : i < xs.length := List.mem_range.mp hi
    rw [List.getD_eq_getElem?_getD (l := xs ++ [1]), List.getElem?_append_left h, ← List.getD_eq_getElem?_getD]
  · rw [List.getD_eq_getElem?_getD (l := xs ++ [1]), List.getElem?_append_right (Nat.le_refl _), Nat.sub_self]
    show g.getD xs.length 0 * 1 = _
    rw [Int.mul_one]
theorem getD_mem {l : List Int} {i : Nat} (h : i < l.length) : l.getD i 0 ∈ l := by
  rw [List.getD_eq_getElem?_getD, List.getElem?_eq_getElem h]
  exact List.getElem_mem h
theorem fd_ints {K : PySem.W.Frag} {H : Hp} {v : V} {g : List Int} (h : Dp K H v (fD g)) : ∃ a, v = .ref a ∧ SqT K H a (g.map V.int) := by
  obtain ⟨a, xs, rfl, hs, ha⟩ := rp_tup (.inl h)
  refine ⟨a, rfl, ?_⟩
  have e : xs = g.map V.int := by
    have l := dp_len ha
    rw [List.length_map] at l
    apply list_is l
    intro i y ey
    obtain ⟨s, es, hd⟩ := map_at ha ey
    cases hd
    exact ⟨s, es, rfl⟩
  rw [← e]
  exact hs
theorem bt_num {g : List Int} (h : ∀ i ∈ g, -1000000 ≤ i ∧ i ≤ 1000000) : Bt g := fun z m => by
  have h2 := h z m
  have e : (2 : Nat) ^ 20 = 1048576 := by decide
  exact Nat.le_trans (intBits_le_iff.mpr (show z.natAbs < 2 ^ 20 by omega)) (by decide)
structure MoW (mg : Str → Option Value) : Prop where
  sum : mg "sum" = none
  zip : mg "zip" = none
section
variable {P : Program} {w : World} {K : PySem.W.Frag} {mg : Str → Option Value} {base : Heap} {f : Addr} {fd : FuncData}
def spWei (K : PySem.W.Frag) : Sp := fun vs H Q _ => ∃ (a b : Addr) (g xs : List Int), vs = [.ref a, .ref b] ∧ SqT K H a (g.map V.int) ∧ SqT K H b (xs.map V.int) ∧ g.length = xs.length ∧ xs.length ≤ 1000 ∧ Bt g ∧ Bt xs ∧ ∀ H', Same H H' → Q (.int (sumS g xs xs.length)) H'
abbrev nWei : List Str := ["form", "numbers", "one", "other"]
theorem scWei : FnScope nWei ["form", "numbers"] (defScope sWei) := ⟨rfl, rfl, rfl, by decide +kernel, rfl, by decide +kernel, by decide +kernel⟩
theorem ok_wei (F : FnP K "weighed" sWei f fd) (M : MoW mg) : FnOk P w K mg base CX0 1 f fd ["form", "numbers"] (spWei K) := by
  refine F.ok scWei (fun vs H Q E h => ?_) (fun cdv A outer s H vs Q E hr h => ?_)
  · obtain ⟨a, b, g, xs, rfl, _⟩ := h
    rfl
  · obtain ⟨a, b, g, xs, rfl, ha, hb, hl, h1, bg, bx, k⟩ := h
    refine ⟨_, PSs.nox <| pss_one (ps_ret (pe_callB (cr_sum rfl) (by rfl) M.sum (by decide +kernel) (pa_cons (pe_lc (own := [("one", 2), ("other", 3)]) (g := gTup K 2 (gCons (gName 2) (gCons (gName 3) gNil))) (tt := tYes) rfl scWei.nd (pi_zipA (by rfl) M.zip (pa_cons (pv 0) (pa_cons (pv 1) pa_nil))) (blkOk_by (N := nWei) (sc := defScope sWei) (by decide +kernel))
        (fun _ _ _ _ _ => pg_tup (by rfl) (pgs_cons (pg_name (i := 2) scWei.nd rfl (.inl rfl)) (pgs_cons (pg_name (i := 3) scWei.nd rfl (.inl rfl)) pgs_nil)))
        (fun _ _ _ _ _ => pts_nil) (fun _ _ _ _ _ => pe_op mulI (pv 2) (pv 3))) pa_nil))), ?_⟩
    refine ⟨_, rfl, _, rfl, a, b, _, _, rfl, .inr ⟨ha, hb, lcR (walk_zipT (xs := g.map V.int) (ys := xs.map V.int) (n := xs.length) (by rw [List.length_map, List.length_map, hl]; omega)) (n1 := h1) (fun H' s' => ⟨Same.seqT s' ha, Same.seqT s' hb⟩) (fun i y _ => y = .int (g.getD i 0 * xs.getD i 0)) (fun _ _ _ _ _ e => e) ?_ ?_⟩⟩
    · rintro D acc i x Ha Hb K2 hi s nD hD ⟨T, y, z, rfl, nT, rfl, ey, ez⟩ kk
      replace ey : (g.map V.int)[i]? = some y := ey
      replace ez : (xs.map V.int)[i]? = some z := ez
      have e1 : y = .int (g.getD i 0) := by
        rw [List.getElem?_map, List.getElem?_eq_getElem (by omega)] at ey
        rw [List.getD_eq_getElem?_getD, List.getElem?_eq_getElem (show i < g.length by omega)]
        exact (Option.some.inj ey).symm
      have e2 : z = .int (xs.getD i 0) := by
        rw [List.getElem?_map, List.getElem?_eq_getElem hi] at ez
        rw [List.getD_eq_getElem?_getD, List.getElem?_eq_getElem hi]
        exact (Option.some.inj ez).symm
      subst e1 e2
      refine ⟨T, _, rfl, SqT.of upd_same, rfl, _, _, rfl, _, _, rfl, rfl, rfl, ?_⟩
      exact ⟨_, rfl, _, rfl, _, _, rfl, rfl, IntMulOk.of_le (bg _ (getD_mem (show i < g.length by omega))) (bx _ (getD_mem hi)) (by decide), kk _ _ (same_new nT) rfl⟩
    · rintro D Hb ys nw hlen he
      have ey : ys = ((List.range xs.length).map fun i => g.getD i 0 * xs.getD i 0).map V.int := by
        rw [List.map_map]
        exact list_of hlen he
      exact ⟨D, _, rfl, by rw [← ey]; exact SqL.of nw.2.1, k Hb nw.2.2⟩
def spVal (K : PySem.W.Frag) : Sp := fun vs H Q _ => ∃ (u v : V) (g xs : List Int), vs = [u, v] ∧ Dp K H u (fD g) ∧ Dp K H v (fD xs) ∧ g.length = xs.length + 1 ∧ xs.length ≤ 900 ∧ Bt g ∧ Bt xs ∧ ∀ H', Same H H' → Q (.int (valS g xs)) H'
theorem scVal : FnScope ["form", "point"] ["form", "point"] (defScope sVal) := ⟨rfl, rfl, rfl, by decide +kernel, rfl, by decide +kernel, by decide +kernel⟩
theorem ok_val {fW : Addr} {dW : FuncData} (F : FnP K "value_at" sVal f fd) (M : MoW mg) (FW : FnP K "weighed" sWei fW dW) (gW : mg "weighed" = some (.ref fW)) : FnOk P w K mg base CX0 2 f fd ["form", "point"] (spVal K) := by
  have GW : FnOk P w K mg base CX0 1 fW dW ["form", "numbers"] (spWei K) := ok_wei FW M
  have bW : Binds K dW ["form", "numbers"] [] := FW.bindsN fun _ _ _ _ _ _ us hl => match us, hl with | [_, _], _ => rfl
  refine F.ok scVal (fun vs H Q E h => ?_) (fun cdv A outer s H vs Q E hr h => ?_)
  · obtain ⟨u, v, g, xs, rfl, _⟩ := h
    rfl
  · obtain ⟨u, v, g, xs, rfl, hu, hv, hl, h1, bg, bx, k⟩ := h
    refine ⟨_, PSs.nox <| pss_one (ps_ret (pe_call GW hr (by rfl) gW FW.kp bW .nil pass0 (pa_cons (pv 0) (pa_cons (pe_tupR (pa_star (pv 1) (pa_cons pe_int pa_nil))) pa_nil)))), ?_⟩
    obtain ⟨a, rfl, ha⟩ := fd_ints hu
    obtain ⟨b, rfl, hb⟩ := fd_ints hv
    refine ⟨_, rfl, _, rfl, b, _, rfl, .inl hb, by rw [List.length_append, List.length_map]; show xs.length + 1 ≤ 1000; omega, fun p H1 n1 => ?_⟩
    refine ⟨a, p, g, xs ++ [1], rfl, Same.seqT n1.2.2 ha, SqT.of (by rw [n1.2.1, List.map_append]; rfl), by rw [List.length_append]; exact hl, by rw [List.length_append]; show xs.length + 1 ≤ 1000; omega, bg, fun z hz => ?_, fun H2 s2 => ?_⟩
    · rcases List.mem_append.mp hz with hz | hz
      · exact bx z hz
      · rw [List.mem_singleton.mp hz]
        decide
    · rw [List.length_append]
      show _
      have := k H2 (n1.2.2.trans s2)
      rw [← sumS_one] at this
      exact this
end
end Pg
set_option Elab.async false
set_option linter.all false
set_option maxRecDepth 100000
set_option maxHeartbeats 8000000
namespace Pg
open PySem PySem.Spec PyProof.Rows L2 Gd Rl Te Nu TL Hy Fx
abbrev sCg : Stmt := top 38
abbrev sCl : Stmt := top 40
abbrev sCo : Stmt := top 41
abbrev sFi : Stmt := top 53
abbrev sBe : Stmt := top 54
/-! ### what a branch says at a point -/
def fitsS (a : Arm) (z : Str) (xs : List Int) : Bool := decide (V.str a.src = V.str z) && a.tests.all fun t => decide (valS t xs ≥ 0)
def turnS (a : Arm) (xs : List Int) : List Int := a.turns.map fun t => valS t xs
def lowN (ts : List (List Int)) (xs : List Int) (n : Nat) : List Nat := (List.range n).filter fun k => decide (valS (ts.getD k []) xs < 0)
def lowS (a : Arm) (xs : List Int) : List Nat := lowN a.tests xs a.tests.length
theorem lowN_snoc (ts : List (List Int)) (xs : List Int) (n : Nat) : lowN ts xs (n + 1) = lowN ts xs n ++ (if valS (ts.getD n []) xs < 0 then [n] else []) := by
  unfold lowN
  rw [List.range_succ, List.filter_append]
  congr 1
  by_cases h : valS (ts.getD n []) xs < 0
  · rw [if_pos h, List.filter_cons, decide_eq_true h]
    rfl
  · rw [if_neg h, List.filter_cons, decide_eq_false h]
    rfl
theorem lowN_first {ts : List (List Int)} {xs : List Int} {i n : Nat} (h0 : lowN ts xs i = []) (hi : valS (ts.getD i []) xs < 0) (hn : i < n) : ∃ r, lowN ts xs n = i :: r := by
  obtain ⟨d, rfl⟩ := Nat.exists_eq_add_of_lt hn
  induction d with
  | zero =>
    refine ⟨[], ?_⟩
    show lowN ts xs (i + 1) = _
    rw [lowN_snoc, h0, if_pos hi]
    rfl
  | succ d ih =>
    obtain ⟨r, e⟩ := ih (by omega)
    refine ⟨r ++ (if valS (ts.getD (i + d + 1) []) xs < 0 then [i + d + 1] else []), ?_⟩
    show lowN ts xs ((i + d + 1) + 1) = _
    rw [lowN_snoc, e]
    rfl
theorem low_fits (a : Arm) (z : Str) (xs : List Int) : fitsS a z xs = (decide (V.str a.src = V.str z) && decide (lowS a xs = [])) := by
  unfold fitsS lowS lowN
  congr 1
  rw [Bool.eq_iff_iff, decide_eq_true_iff, List.all_eq_true, List.filter_eq_nil_iff]
  constructor
  · intro h k hk hd
    have hk' := List.mem_range.mp hk
    have h2 := of_decide_eq_true (h (a.tests[k]) (List.getElem_mem hk'))
    rw [List.getD_eq_getElem?_getD, List.getElem?_eq_getElem hk'] at hd
    have h3 := of_decide_eq_true hd
    exact absurd h3 (Int.not_lt.mpr h2)
  · intro h t ht
    obtain ⟨k, hk, rfl⟩ := List.getElem_of_mem ht
    have h2 := h k (List.mem_range.mpr hk)
    rw [List.getD_eq_getElem?_getD, List.getElem?_eq_getElem hk] at h2
    apply decide_eq_true
    exact Int.not_lt.mp fun q => h2 (decide_eq_true q)
/-- what is known of a form of a branch -/
theorem forms_at {m : Nat} {ts : List (List Int)} (h : formsB m (.tuple (ts.map fD)) = true) {g : List Int} (hg : g ∈ ts) : g.length = m + 1 ∧ Bt g := by
  have h1 : (ts.map fD).all (formB m) = true := h
  have h2 := List.all_eq_true.mp h1 _ (List.mem_map_of_mem hg)
  have h3 : (decide ((g.map PyData.int).length = m + 1) && (g.map PyData.int).all numB) = true := h2
  rw [Bool.and_eq_true] at h3
  have h4 := of_decide_eq_true h3.1
  rw [List.length_map] at h4
  refine ⟨h4, bt_num fun i hi => ?_⟩
  have h5 := List.all_eq_true.mp h3.2 _ (List.mem_map_of_mem hi)
  have h6 : (decide (-1000000 ≤ i) && decide (i ≤ 1000000)) = true := h5
  rw [Bool.and_eq_true] at h6
  exact ⟨of_decide_eq_true h6.1, of_decide_eq_true h6.2⟩
structure KinP (K : PySem.W.Frag) (C : Addr) : Prop where
  ha : PySem.W.findIn K (.ref C) "__class__" = some (some (.builtin "object.__class__"))
  hn : PySem.W.specialIn K (.builtin "object.__class__") "__get__" = some (some (.builtin "getset_descriptor.__get__"))
  ht : PySem.W.takesIn K (.builtin "object.__class__") = some true
  hm : PySem.W.mroIn K C (.type "object") = some true
  own : PySem.W.kitOne K (.ref C) (.ref C) = some true
structure ErrA (prog : Program) (K : PySem.W.Frag) (mg : Str → Option Value) (x : Str) (C W fI : Addr) (f : Str) : Prop where
  e : Err1 prog K mg "ArithmeticError.__new__" "ArithmeticError.__init__" [.type "ArithmeticError", .type "Exception", .type "BaseException", .type "object"] C W fI f
  g : mg x = some (.ref C)
  sub : PySem.W.subIn K (.ref C) (.type "BaseException") = some true
  ty : PySem.W.typeIn K (.ref C) = some (.type "type")
section
variable {P : Program} {w : World} {K : PySem.W.Frag} {mg : Str → Option Value} {base : Heap} {f C : Addr} {fd : FuncData}
/-! ### what is asked, asked rightly -/
def spCg (K : PySem.W.Frag) (C : Addr) : Sp := fun vs H Q _ => ∃ (p : Addr) (ns : List Str) (ss : List (Str × List Int)) (as : List Arm), vs = [.ref p] ∧ ProgAt K C H p ns ss as ∧ Q .non H
theorem scCg : FnScope ["program"] ["program"] (defScope sCg) := ⟨rfl, rfl, rfl, by decide +kernel, rfl, by decide +kernel, by decide +kernel⟩
theorem ok_cg (F : FnP K "check_program" sCg f fd) (T : Mo mg) (X : Txt K mg C) (N : KinP K C) : FnOk P w K mg base CX0 1 f fd ["program"] (spCg K C) := by
  refine F.ok scCg (fun vs H Q E h => ?_) (fun cdv A outer s H vs Q E hr h => ?_)
  · obtain ⟨p, ns, ss, as, rfl, _⟩ := h
    rfl
  · obtain ⟨p, ns, ss, as, rfl, ⟨dx, a1, b1, c1, d1, hp, _⟩, k⟩ := h
    refine ⟨_, PSs.nox <| pss_one (ps_if (pt_not (pt_val (pe_callB call_isi (by rfl) T.isi boot_isinstance (pa_cons (pv 0) (pa_cons (pe_glob (v := .ref C) (by rfl) X.g rfl) pa_nil))))) (pss_one ps_never) pss_nil), ?_⟩
    exact ⟨_, rfl, .ref p, .ref C, .ref C, .ref C, true, rfl, .own C, .base (.ins hp X.cl N.ha N.hn N.ht N.hm), N.own, _, rfl, iteF k⟩
def spCkR (K : PySem.W.Frag) (C : Addr) : Sp := fun vs H Q _ => ∃ (p : Addr) (i : Nat) (ns : List Str) (ss : List (Str × List Int)) (as : List Arm), vs = [.ref p, .int i] ∧ ProgAt K C H p ns ss as ∧ OkP ns ss as ∧ i < as.length ∧ ∀ H', Same H H' → Q .non H'
theorem ok_ckR {fX p3 g3 : Addr} {dX d3 : FuncData} (F : FnP K "check_index" sCk f fd) (T : Mo mg) (X : Txt K mg C) (FX : FnP K "is_index" sIx fX dX) (gX : mg "is_index" = some (.ref fX)) (GX : FnOk P w K mg base CX0 2 fX dX ["value", "many"] (spJ2 K ixB))
    (P3 : PropOf K C "branches" p3 g3) (F3 : FunP K "branches" "Program.branches" sGb g3 d3) : FnOk P w K mg base CX0 3 f fd ["program", "index"] (spCkR K C) := by
  have H3 : FnOk P w K mg base CX0 1 g3 d3 ["self"] (spGet K C fun ns ss as v H => Dp K H v (armsD as)) := ok_gbranches F3 X
  have b3 : Binds K d3 ["self"] [] := F3.bindsN fun _ _ _ _ _ _ us hl => match us, hl with | [_], _ => rfl
  have bX : Binds K dX ["value", "many"] [] := FX.bindsN fun _ _ _ _ _ _ us hl => match us, hl with | [_, _], _ => rfl
  refine F.ok scCk (fun vs H Q E h => ?_) (fun cdv A outer s H vs Q E hr h => ?_)
  · obtain ⟨p, i, ns, ss, as, rfl, _⟩ := h
    rfl
  · obtain ⟨p, i, ns, ss, as, rfl, hp, ok, hi, k⟩ := h
    refine ⟨_, PSs.nox <| pss_one (ps_if (pt_not (pt_val (pe_call GX hr (by rfl) gX FX.kp bX .nil pass0 (pa_cons (pv 1) (pa_cons (pe_callB call_len (by rfl) T.len PySem.boot_len (pa_cons (pe_prop (pv 0) X.cl P3 H3 hr b3 .nil pass0 (by rfl)) pa_nil)) pa_nil)))))
      (pss_one ps_never) pss_nil), ?_⟩
    obtain ⟨dx, _, _, _, _, hx, _⟩ := id hp
    refine ⟨_, rfl, _, rfl, p, dx, _, rfl, hx, p, ns, ss, as, rfl, hp, ok, fun v1 h1 => ?_⟩
    obtain ⟨c, cs, rfl, hc, lc⟩ := arms_lenH h1
    refine ⟨_, _, rfl, .inr ⟨_, hc, rfl⟩, ?_⟩
    rw [lc]
    refine ⟨_, .int i, as.length, rfl, .inl (.int _), rfl, fun H' s => ⟨_, rfl, ?_⟩⟩
    have e : ixB as.length (.int (i : Nat)) = true := by
      show (decide ((0 : Int) ≤ (i : Nat)) && decide (((i : Nat) : Int) < (as.length : Int))) = true
      rw [decide_eq_true (by omega), decide_eq_true (by omega)]
      rfl
    rw [e]
    exact iteF (k H' s)
def spCl (K : PySem.W.Frag) (C : Addr) : Sp := fun vs H Q _ => ∃ (p : Addr) (z : Str) (ns : List Str) (ss : List (Str × List Int)) (as : List Arm), vs = [.ref p, .str z] ∧ ProgAt K C H p ns ss as ∧ OkP ns ss as ∧ z ∈ placesS ss as ∧ Q .non H
theorem scCl : FnScope ["program", "place"] ["program", "place"] (defScope sCl) := ⟨rfl, rfl, rfl, by decide +kernel, rfl, by decide +kernel, by decide +kernel⟩
theorem ok_cl {p5 g5 : Addr} {d5 : FuncData} (F : FnP K "check_place" sCl f fd) (T : Mo mg) (X : Txt K mg C) (P5 : PropOf K C "places" p5 g5) (F5 : FunP K "places" "Program.places" sGp g5 d5) : FnOk P w K mg base CX0 3 f fd ["program", "place"] (spCl K C) := by
  have H5 : FnOk P w K mg base CX0 1 g5 d5 ["self"] (spGet K C fun ns ss as v H => ∃ d, v = .ref d ∧ SqT K H d ((placesS ss as).map V.str)) := ok_gplaces F5 X
  have b5 : Binds K d5 ["self"] [] := F5.bindsN fun _ _ _ _ _ _ us hl => match us, hl with | [_], _ => rfl
  refine F.ok scCl (fun vs H Q E h => ?_) (fun cdv A outer s H vs Q E hr h => ?_)
  · obtain ⟨p, z, ns, ss, as, rfl, _⟩ := h
    rfl
  · obtain ⟨p, z, ns, ss, as, rfl, hp, ok, hz, k⟩ := h
    refine ⟨_, PSs.nox <| pss_one (ps_if (PW.pt (pw_or (pt_not (pt_val (pe_callB (call_isD (T := "str")) (by rfl) T.isi boot_isinstance (pa_cons (pv 1) (pa_cons (pe_bltn (v := .ty "str") (by rfl) T.str (by decide +kernel) rfl) pa_nil)))))
      (pw_or1 (pt_cmpR (r := rIn K true) op_notIn_seq (pv 1) (pe_prop (pv 0) X.cl P5 H5 hr b5 .nil pass0 (by rfl)) (by rfl))))) (pss_one ps_never) pss_nil), ?_⟩
    obtain ⟨dx, _, _, _, _, hx, _⟩ := id hp
    refine ⟨_, rfl, _, .str z, _, rfl, .inl (.str _), kit_str _, _, rfl, iteF ?_⟩
    refine ⟨_, rfl, _, rfl, p, dx, _, rfl, hx, p, ns, ss, as, rfl, hp, ok, fun v1 h1 => ?_⟩
    obtain ⟨d, rfl, hd⟩ := h1
    refine ⟨d, _, rfl, .inr hd, rfl, flat_strs _, _, rfl, ?_⟩
    refine iteBF (by rw [if_pos rfl, inV_strs, List.contains_iff_mem.mpr hz]; rfl) k
def spCo (K : PySem.W.Frag) (C : Addr) : Sp := fun vs H Q _ => ∃ (p : Addr) (v : V) (xs : List Int) (ns : List Str) (ss : List (Str × List Int)) (as : List Arm), vs = [.ref p, v] ∧ ProgAt K C H p ns ss as ∧ OkP ns ss as ∧ Dp K H v (fD xs) ∧ xs.length = ns.length ∧ ∀ H', Same H H' → Q .non H'
theorem scCo : FnScope ["program", "point"] ["program", "point"] (defScope sCo) := ⟨rfl, rfl, rfl, by decide +kernel, rfl, by decide +kernel, by decide +kernel⟩
theorem ok_co {fY p1 g1 : Addr} {dY d1 : FuncData} (F : FnP K "check_point" sCo f fd) (T : Mo mg) (X : Txt K mg C) (FY : FnP K "are_integers" sInts fY dY) (gY : mg "are_integers" = some (.ref fY)) (GY : FnOk P w K mg base CX0 2 fY dY ["value", "many"] (spJ2 K intsB))
    (P1 : PropOf K C "names" p1 g1) (F1 : FunP K "names" "Program.names" sGn g1 d1) : FnOk P w K mg base CX0 3 f fd ["program", "point"] (spCo K C) := by
  have H1 : FnOk P w K mg base CX0 1 g1 d1 ["self"] (spGet K C fun ns ss as v H => Dp K H v (namesD ns)) := ok_gnames F1 X
  have b1 : Binds K d1 ["self"] [] := F1.bindsN fun _ _ _ _ _ _ us hl => match us, hl with | [_], _ => rfl
  have bY : Binds K dY ["value", "many"] [] := FY.bindsN fun _ _ _ _ _ _ us hl => match us, hl with | [_, _], _ => rfl
  refine F.ok scCo (fun vs H Q E h => ?_) (fun cdv A outer s H vs Q E hr h => ?_)
  · obtain ⟨p, v, xs, ns, ss, as, rfl, _⟩ := h
    rfl
  · obtain ⟨p, v, xs, ns, ss, as, rfl, hp, ok, hv, hl, k⟩ := h
    refine ⟨_, PSs.nox <| pss_one (ps_if (pt_not (pt_val (pe_call GY hr (by rfl) gY FY.kp bY .nil pass0 (pa_cons (pv 1) (pa_cons (pe_callB call_len (by rfl) T.len PySem.boot_len (pa_cons (pe_prop (pv 0) X.cl P1 H1 hr b1 .nil pass0 (by rfl)) pa_nil)) pa_nil)))))
      (pss_one ps_never) pss_nil), ?_⟩
    obtain ⟨dx, _, _, _, _, hx, _⟩ := id hp
    refine ⟨_, rfl, _, rfl, p, dx, _, rfl, hx, p, ns, ss, as, rfl, hp, ok, fun v1 h1 => ?_⟩
    obtain ⟨c, cs, rfl, hc, hcs⟩ := rp_tup (.inl h1)
    have lc := dp_len hcs
    rw [List.length_map] at lc
    refine ⟨_, _, rfl, .inr ⟨_, hc, rfl⟩, ?_⟩
    rw [lc]
    have n3 := ok.n.three
    refine ⟨v, fD xs, ns.length, rfl, .inl hv, ?_, fun H' s => ⟨_, rfl, ?_⟩⟩
    · show (decide ((xs.map PyData.int).length ≤ 1000) && okAll (xs.map PyData.int)) = true
      rw [List.length_map, decide_eq_true (by omega), ok_ints]
      rfl
    · have e : intsB ns.length (fD xs) = true := by
        show (decide ((xs.map PyData.int).length = ns.length) && (xs.map PyData.int).all intB) = true
        rw [List.length_map, decide_eq_true hl, List.all_map, Bool.true_and]
        exact List.all_eq_true.mpr fun _ _ => rfl
      rw [e]
      exact iteF (k H' s)
end
end Pg
set_option Elab.async false
set_option linter.all false
set_option maxRecDepth 100000
set_option maxHeartbeats 8000000
namespace Hx
open PySem PySem.Spec PyProof.Rows L2
theorem kinB_ok {K : PySem.W.Frag} {C : Addr} (h : kinB K C = true) : Pg.KinP K C := by
  unfold kinB at h
  obtain ⟨h1, h⟩ := Bool.and_eq_true_iff.mp h
  obtain ⟨h2, h⟩ := Bool.and_eq_true_iff.mp h
  obtain ⟨h3, h⟩ := Bool.and_eq_true_iff.mp h
  obtain ⟨h4, h5⟩ := Bool.and_eq_true_iff.mp h
  exact ⟨He.eqO_ok h1, He.eqO_ok h2, of_decide_eq_true h3, of_decide_eq_true h4, of_decide_eq_true h5⟩
end Hx
set_option Elab.async false
set_option linter.all false
set_option maxRecDepth 100000
set_option maxHeartbeats 4000000
namespace K5
open PySem PySem.Spec PyProof.Rows L2
abbrev top := Pg.top
abbrev sBegun : Stmt := top 58
abbrev sCast : Stmt := top 59
abbrev sAny : Stmt := top 60
abbrev FnP (K : PySem.W.Frag) (x : Str) (st : Stmt) (f : Addr) (fd : FuncData) : Prop := Pg.FnP K x st f fd
/-- a pail: what is left of the own number, the state, the count -/
structure Pail (H : Hp) (p : Addr) : Prop where
  ex : ∃ o st c : Int, H p = some (.lst [.int o, .int st, .int c]) ∧ 0 ≤ o ∧ 0 ≤ st ∧ st < 2147483648
/-- what was tracked stands, but perhaps at p -/
def But (p : Addr) (H H' : Hp) : Prop := ∀ b o, H b = some o → b ≠ p → H' b = some o
theorem But.refl {p : Addr} {H : Hp} : But p H H := fun _ _ e _ => e
theorem But.trans {p : Addr} {H H1 H2 : Hp} (a : But p H H1) (b : But p H1 H2) : But p H H2 := fun c o e n => b c o (a c o e n) n
def spCast : Sp := fun vs H Q _ => ∃ (p : Addr) (n : Int), vs = [.ref p, .int n] ∧ Pail H p ∧ 1 ≤ n ∧ n ≤ 1000000000 ∧ ∀ (r : Int) (H' : Hp), 0 ≤ r → r < n → Pail H' p → But p H H' → Q (.int r) H'
structure Bl (mg : Str → Option Value) : Prop where
  len : mg "len" = none
  divmod : mg "divmod" = none
  int : mg "int" = none
  abs : mg "abs" = none
section
variable {P : Program} {w : World} {K : PySem.W.Frag} {mg : Str → Option Value} {base : Heap} {f : Addr} {fd : FuncData}
theorem scCast : FnScope ["_law_pail", "_law_many", "_law_figure", "_law_state"] ["_law_pail", "_law_many"] (defScope sCast) := ⟨rfl, rfl, rfl, by decide +kernel, rfl, by decide +kernel, by decide +kernel⟩
theorem ok_cast (F : FnP K "_law_cast" sCast f fd) (T : Bl mg) : FnOk P w K mg base CX0 1 f fd ["_law_pail", "_law_many"] spCast := by
  refine F.ok scCast (fun vs H Q E h => ?_) (fun cdv A outer s H vs Q E hr h => ?_)
  · obtain ⟨p, n, rfl, _⟩ := h
    rfl
  · obtain ⟨p, n, rfl, ⟨o, st, c, hp, ho, h0, h1⟩, n1, n2, k⟩ := h
    refine ⟨_, PSs.nox (pss_cons (ps_if (pt_cmpR op_gt (pe_ix ix_list (pv 0) pe_int (fun _ _ => rfl)) pe_int (nomark _))
        (pss_cons (ps_asg (pe_callB call_divmod (by rfl) T.divmod (by decide +kernel) (pa_cons (pe_ix ix_list (pv 0) pe_int (fun _ _ => rfl)) (pa_cons (pv 1) pa_nil))) (pg_tup (by rfl) (pgs_cons (pg_sub (pv 0) pe_int set_list) (pgs_cons (pg_name (i := 2) scCast.nd rfl (.inl rfl)) pgs_nil))))
          (pss_one (ps_ret (pv 2)))) pss_nil)
      (pss_cons (ps_asg (pe_op op_add (pe_ix ix_list (pv 0) pe_int (fun _ _ => rfl)) pe_int) (pg_sub (pv 0) pe_int set_list))
      (pss_cons (ps_set (i := 3) scCast.nd rfl (.inl rfl) (pe_op op_mod (pe_callTy call_int1 (by rfl) T.int (by decide +kernel) (pa_cons (pe_op op_add (pe_op op_add (pe_op op_mul (pe_ix ix_list (pv 0) pe_int (fun _ _ => rfl)) (pe_op op_add pe_int (pe_op op_mul pe_int (pe_ix ix_list (pv 0) pe_int (fun _ _ => rfl))))) (pe_op op_mul pe_int (pe_ix ix_list (pv 0) pe_int (fun _ _ => rfl)))) pe_int) pa_nil)) pe_int))
      (pss_cons (ps_asg (pe_op op_mod (pe_callTy call_int1 (by rfl) T.int (by decide +kernel) (pa_cons (pe_op op_add (pe_op op_add (pe_op op_mul (pv 3) pe_int) (pe_op op_mul pe_int (pe_ix ix_list (pv 0) pe_int (fun _ _ => rfl)))) pe_int) pa_nil)) pe_int) (pg_sub (pv 0) pe_int set_list))
      (pss_one (ps_ret (pe_op op_mod (pe_callTy call_int1 (by rfl) T.int (by decide +kernel) (pa_cons (pe_op op_fdiv (pe_ix ix_list (pv 0) pe_int (fun _ _ => rfl)) pe_int) pa_nil)) (pv 1)))))))), ?_⟩
    refine ⟨_, rfl, p, _, _, _, rfl, rfl, SqL.of hp, rfl, _, _, rfl, rfl, _, rfl, ?_⟩
    refine ite2 (fun hc => ?_) (fun hc => ?_)
    · refine ⟨_, rfl, p, _, _, _, rfl, rfl, SqL.of hp, rfl, _, rfl, _, _, rfl, ⟨by omega, by omega⟩, fun q hq => ?_⟩
      have pq : p ≠ q := ne_of_none hp hq
      have ho' : 0 < o := of_decide_eq_true hc
      refine ⟨q, _, rfl, SqT.of upd_same, rfl, _, _, rfl, _, rfl, p, _, _, 0, rfl, rfl, (by rw [upd_ne pq]; exact hp), rfl, ?_⟩
      refine ⟨_, _, rfl, ?_⟩
      refine ⟨rfl, _, rfl, ?_⟩
      refine k (o % n) _ (Int.emod_nonneg _ (by omega)) (Int.emod_lt_of_pos _ (by omega)) ⟨o / n, st, c, upd_same, Int.ediv_nonneg (by omega) (by omega), h0, h1⟩ fun b u e nb => ?_
      rw [upd_ne nb, upd_ne (ne_of_none e hq)]
      exact e
    · have e1 : ∀ {x y z : Int}, (upd H p (.lst [.int x, .int y, .int z])) p = some (.lst [.int x, .int y, .int z]) := upd_same
      refine ⟨_, rfl, p, _, _, _, rfl, rfl, SqL.of hp, rfl, _, _, rfl, rfl, _, rfl, p, _, _, 2, rfl, rfl, hp, rfl, ?_⟩
      refine ⟨_, rfl, p, _, _, _, rfl, rfl, SqL.of upd_same, rfl, _, rfl, p, _, _, _, rfl, rfl, SqL.of upd_same, rfl, _, _, rfl, rfl, .inl ⟨by decide, by decide⟩, _, _, rfl, rfl, _, _, rfl, rfl, .inl ⟨by omega, by omega⟩, _, rfl, p, _, _, _, rfl, rfl, SqL.of upd_same, rfl, _, _, rfl, rfl, .inl ⟨by decide, by decide⟩, _, _, rfl, rfl, _, _, rfl, rfl, .inl ⟨_, rfl, ?_⟩⟩
      refine ⟨_, _, rfl, rfl, (by show (0 : Int) < 2147483629; decide), ?_⟩
      refine ⟨_, rfl, _, _, rfl, rfl, .inl ⟨by omega, by omega⟩, _, rfl, p, _, _, _, rfl, rfl, SqL.of upd_same, rfl, _, _, rfl, rfl, .inl ⟨by decide, by decide⟩, _, _, rfl, rfl, _, _, rfl, rfl, .inl ⟨_, rfl, _, _, rfl, rfl, (by show (0 : Int) < 2147483587; decide), ?_⟩⟩
      refine ⟨_, rfl, p, _, _, 1, rfl, rfl, upd_same, rfl, ?_⟩
      refine ⟨_, rfl, p, _, _, _, rfl, rfl, SqL.of upd_same, rfl, _, _, rfl, rfl, ⟨by decide, by decide⟩, .inl ⟨_, rfl, _, rfl, _, _, rfl, rfl, (by show (0 : Int) < n; omega), ?_⟩⟩
      refine k _ _ (Int.emod_nonneg _ (by omega)) (Int.emod_lt_of_pos _ (by omega)) ⟨o, _, _, upd_same, ho, Int.emod_nonneg _ (by decide), Int.lt_of_lt_of_le (Int.emod_lt_of_pos _ (by decide)) (by decide)⟩ fun b u e nb => ?_
      rw [upd_ne nb, upd_ne nb]
      exact e
/-! ### any of a list -/
def spAny (K : PySem.W.Frag) : Sp := fun vs H Q _ => ∃ (p l : Addr) (xs : List V), vs = [.ref p, .ref l] ∧ Pail H p ∧ H l = some (.lst xs) ∧ l ≠ p ∧ 0 < xs.length ∧ xs.length ≤ 1000 ∧
  ∀ (i : Nat) (x : V) (H' : Hp), xs[i]? = some x → Pail H' p → But p H H' → Q x H'
theorem scAny : FnScope ["_law_pail", "_law_some"] ["_law_pail", "_law_some"] (defScope sAny) := ⟨rfl, rfl, rfl, by decide +kernel, rfl, by decide +kernel, by decide +kernel⟩
theorem ok_any {fC : Addr} {fdC : FuncData} (F : FnP K "_law_any_of" sAny f fd) (T : Bl mg) (FC : FnP K "_law_cast" sCast fC fdC) (gC : mg "_law_cast" = some (.ref fC)) : FnOk P w K mg base CX0 2 f fd ["_law_pail", "_law_some"] (spAny K) := by
  have GC : FnOk P w K mg base CX0 1 fC fdC ["_law_pail", "_law_many"] spCast := ok_cast FC T
  have bC : Binds K fdC ["_law_pail", "_law_many"] [] := FC.bindsN fun _ _ _ _ _ _ us hl => match us, hl with | [_, _], _ => rfl
  refine F.ok scAny (fun vs H Q E h => ?_) (fun cdv A outer s H vs Q E hr h => ?_)
  · obtain ⟨p, l, xs, rfl, _⟩ := h
    rfl
  · obtain ⟨p, l, xs, rfl, hp, hl, lp, x0, x1, k⟩ := h
    refine ⟨_, PSs.nox (pss_one (ps_ret (pe_ix ix_list (pv 1) (pe_call GC hr (by rfl) gC FC.kp bC .nil pass0 (pa_cons (pv 0) (pa_cons (pe_callB call_len (by rfl) T.len PySem.boot_len (pa_cons (pv 1) pa_nil)) pa_nil))) (fun _ _ => rfl)))), ?_⟩
    refine ⟨_, rfl, _, rfl, _, rfl, _, xs.length, rfl, .inl ⟨_, SqL.of hl, rfl⟩, p, _, rfl, hp, by omega, by omega, fun r H' r0 r1 hp' bt => ?_⟩
    have hl' : H' l = some (.lst xs) := bt l _ hl lp
    have hi : r.toNat < xs.length := by omega
    have er : xs[r.toNat]? = some xs[r.toNat] := by simp [hi]
    have e2 : atI xs r = some xs[r.toNat] := by
      have := atI_nat er
      rwa [Int.toNat_of_nonneg r0] at this
    exact ⟨l, _, r, _, rfl, rfl, SqL.of hl', e2, k r.toNat _ H' er hp' bt⟩
/-! ### a pail begun -/
theorem mulB : ∀ {X : Cx}, OpR X (binaryOp .Mult) (rI (fun i j => IntMulOk i j) fun i j => .int (i * j)) := fun {X} => opI fun _ _ _ _ _ _ _ hc q => mul_int q hc
theorem bits_ok {i : Int} (h : Builtin.Int.intBits i ≤ 1048576) : IntMulOk i i := by
  unfold IntMulOk
  intro z
  simp only [Bool.and_eq_true, Builtin.Int.intTooBig, decide_eq_true_eq] at z
  have e : ((bitsLine : Nat) : Int) = 134217728 := by decide
  have z2 := z.2
  rw [e] at z2
  omega
def spBegun (K : PySem.W.Frag) : Sp := fun vs H Q _ => ∃ (a : Addr) (ns : List Int) (t : Nat), vs = [.ref a, .int t] ∧ SqL K H a (ns.map V.int) ∧ ns.length ≤ 63 ∧ (∀ z ∈ ns, Builtin.Int.intBits z ≤ 1048576) ∧ t ≤ 1000 ∧
  ∀ (p : Addr) (H' : Hp), Same H H' → H p = none → Pail H' p → Q (.ref p) H'
theorem scBegun : FnScope ["_law_script", "_law_turn_here", "_law_own", "_law_state", "_law_cell"] ["_law_script", "_law_turn_here"] (defScope sBegun) := ⟨rfl, rfl, rfl, by decide +kernel, rfl, by decide +kernel, by decide +kernel⟩
theorem cut_ints {ns : List Int} {lo hi : Option Int} {i : Nat} {x : V} (h : (cutV (ns.map V.int) lo hi)[i]? = some x) : ∃ z, x = V.int z := by
  have m := List.mem_of_getElem? h
  unfold cutV at m
  have m2 := List.mem_of_mem_drop (List.mem_of_mem_take m)
  obtain ⟨z, _, e⟩ := List.mem_map.mp m2
  exact ⟨z, e.symm⟩
theorem ok_begun (F : FnP K "_law_begun" sBegun f fd) (T : Bl mg) : FnOk P w K mg base CX0 1 f fd ["_law_script", "_law_turn_here"] (spBegun K) := by
  refine F.ok scBegun (fun vs H Q E h => ?_) (fun cdv A outer s H vs Q E hr h => ?_)
  · obtain ⟨a, ns, t, rfl, _⟩ := h
    rfl
  · obtain ⟨a, ns, t, rfl, hS, hn, hb, ht, k⟩ := h
    refine ⟨_, PSs.nox <| pss_cons (ps_set (i := 2) scBegun.nd rfl (.inl rfl) (pe_ifExp (pt_cmpR op_lt (pv 1) (pe_callB call_len (by rfl) T.len PySem.boot_len (pa_cons (pv 0) pa_nil)) (nomark _)) (pe_ix ix_list (pv 0) (pv 1) (fun _ _ => rfl)) pe_int))
      <| pss_cons (ps_set (i := 3) scBegun.nd rfl (.inl rfl) (pe_op op_add pe_int (pe_op op_mul pe_int (pv 1))))
      <| pss_cons (ps_for PassesOwn.never rfl (pi_list (pe_slice sl_list (pv 0) po_none (po_some pe_int))) (pg_name (i := 4) scBegun.nd rfl (.inl rfl))
        (pss_one (ps_set (i := 3) scBegun.nd rfl (.inl rfl) (pe_op op_mod (pe_callTy call_int1 (by rfl) T.int (by decide +kernel) (pa_cons (pe_op op_add (pe_op op_add (pe_op op_mul (pv 3) pe_int) (pe_op op_mul (pv 4) pe_int)) pe_int) pa_nil)) pe_int))))
      <| pss_one (ps_ret (pe_lst <| pa_cons (pe_ifExp (PW.pt (pw_or (pt_cmpR op_lt (pv 2) pe_int (nomark _)) (pw_or1 (pt_cmpR op_ge (pv 2) (pe_op op_pow pe_int pe_int) (nomark _))))) (pe_callB call_abs (by rfl) T.abs (by decide +kernel) (pa_cons (pv 2) pa_nil)) pe_int)
        <| pa_cons (pe_op op_mod (pe_callTy call_int1 (by rfl) T.int (by decide +kernel) (pa_cons (pe_op op_add (pe_op op_add (pe_op op_mul (pv 3) pe_int) (pe_op mulB (pv 2) (pv 2))) (pe_op op_mul pe_int (pv 1))) pa_nil)) pe_int) <| pa_cons pe_int pa_nil)), ?_⟩
    -- own
    refine ⟨_, rfl, _, rfl, _, (ns.map V.int).length, rfl, .inl ⟨_, hS, rfl⟩, _, _, rfl, rfl, _, rfl, ?_⟩
    refine ite2 (fun hc => ?_) (fun hc => ?_)
    · have hlt : t < ns.length := by
        have z : ((t : Nat) : Int) < ((ns.map V.int).length : Nat) := of_decide_eq_true hc
        rw [List.length_map] at z
        omega
      have er : (ns.map V.int)[t]? = some (V.int ns[t]) := by simp [hlt]
      have hob := hb ns[t] (List.getElem_mem hlt)
      refine ⟨_, rfl, _, rfl, a, _, _, _, rfl, rfl, hS, atI_nat er, ?_⟩
      refine ⟨_, rfl, _, _, rfl, rfl, .inl ⟨by decide, by decide⟩, _, _, rfl, rfl, ?_⟩
      refine ⟨_, rfl, 6, rfl, a, _, rfl, hS, fun q hq => ?_⟩
      refine ⟨q, rfl, ⟨_, SqL.of upd_same⟩, for_list (K := K) (a := q) (xs := cutV (ns.map V.int) none (some 6)) (fun i σ H2 => ∃ (own st : Int) (cell : Option V), σ = [some (.ref a), some (.int t), some (.int own), some (.int st), cell] ∧ Builtin.Int.intBits own ≤ 1048576 ∧ Same (upd H q (.lst (cutV (ns.map V.int) none (some 6)))) H2 ∧ 0 ≤ st ∧ st < 2147483648) ⟨_, _, none, rfl, hob, Same.refl _, by omega, by omega⟩ (fun i σ H2 _ ⟨_, _, _, _, _, s2, _⟩ => s2.seq (SqL.of upd_same)) ?_ ?_⟩
      · rintro i y σ H2 hi ⟨own, st, cell, rfl, hob, s2, h0, h1⟩
        obtain ⟨z, rfl⟩ := cut_ints hi
        refine ⟨_, rfl, _, _, rfl, rfl, .inl ⟨by omega, by omega⟩, _, rfl, _, _, rfl, rfl, .inr ⟨by decide, by decide⟩, _, _, rfl, rfl, _, _, rfl, rfl, .inl ⟨_, rfl, _, _, rfl, rfl, (by show (0 : Int) < 2147483629; decide), ?_⟩⟩
        exact ⟨own, _, _, rfl, hob, s2, Int.emod_nonneg _ (by decide), Int.lt_of_lt_of_le (Int.emod_lt_of_pos _ (by decide)) (by decide)⟩
      · rintro σ H2 ⟨own, st, cell, rfl, hob, s2, h0, h1⟩
        have sH : Same H H2 := fun b o e => s2 b o (by rw [upd_ne (ne_of_none e hq)]; exact e)
        refine ⟨_, rfl, _, _, rfl, rfl, _, rfl, ?_⟩
        refine ite2 (fun ho => ?_) (fun ho => ?_)
        · refine iteT ⟨_, rfl, _, rfl, ?_⟩
          refine ⟨_, rfl, _, _, rfl, rfl, .inl ⟨by omega, by omega⟩, _, rfl, _, rfl, _, _, rfl, rfl, bits_ok hob, _, _, rfl, rfl, _, rfl, _, _, rfl, rfl, .inl ⟨by decide, by decide⟩, _, _, rfl, rfl, .inl ⟨_, rfl, _, _, rfl, rfl, (by show (0 : Int) < 2147483629; decide), (by show 3 ≤ sizeLine; decide), fun r hr' => ?_⟩⟩
          refine k r _ (fun b o e => by rw [upd_ne (ne_of_none (sH b o e) hr')]; exact sH b o e) (sH.free hr') ⟨_, _, 0, upd_same, ?_, Int.emod_nonneg _ (by decide), Int.lt_of_lt_of_le (Int.emod_lt_of_pos _ (by decide)) (by decide)⟩
          have ho' : own < 0 := of_decide_eq_true ho
          rw [if_pos ho']
          omega
        · refine ⟨_, rfl, _, _, rfl, rfl, ⟨by decide, by decide, by decide⟩, _, _, rfl, rfl, _, rfl, ?_⟩
          refine ite2 (fun ho2 => ?_) (fun ho2 => ?_)
          · refine ⟨_, rfl, _, rfl, ?_⟩
            refine ⟨_, rfl, _, _, rfl, rfl, .inl ⟨by omega, by omega⟩, _, rfl, _, rfl, _, _, rfl, rfl, bits_ok hob, _, _, rfl, rfl, _, rfl, _, _, rfl, rfl, .inl ⟨by decide, by decide⟩, _, _, rfl, rfl, .inl ⟨_, rfl, _, _, rfl, rfl, (by show (0 : Int) < 2147483629; decide), (by show 3 ≤ sizeLine; decide), fun r hr' => ?_⟩⟩
            refine k r _ (fun b o e => by rw [upd_ne (ne_of_none (sH b o e) hr')]; exact sH b o e) (sH.free hr') ⟨_, _, 0, upd_same, ?_, Int.emod_nonneg _ (by decide), Int.lt_of_lt_of_le (Int.emod_lt_of_pos _ (by decide)) (by decide)⟩
            have ho' : ¬ own < 0 := fun z => ho (decide_eq_true z)
            rw [if_neg ho']
            omega
          · skip
            refine ⟨_, rfl, _, _, rfl, rfl, .inl ⟨by omega, by omega⟩, _, rfl, _, rfl, _, _, rfl, rfl, bits_ok hob, _, _, rfl, rfl, _, rfl, _, _, rfl, rfl, .inl ⟨by decide, by decide⟩, _, _, rfl, rfl, .inl ⟨_, rfl, _, _, rfl, rfl, (by show (0 : Int) < 2147483629; decide), (by show 3 ≤ sizeLine; decide), fun r hr' => ?_⟩⟩
            refine k r _ (fun b o e => by rw [upd_ne (ne_of_none (sH b o e) hr')]; exact sH b o e) (sH.free hr') ⟨_, _, 0, upd_same, ?_, Int.emod_nonneg _ (by decide), Int.lt_of_lt_of_le (Int.emod_lt_of_pos _ (by decide)) (by decide)⟩
            exact Int.le_refl 0
    · have hob : Builtin.Int.intBits 0 ≤ 1048576 := by decide
      refine ⟨_, rfl, _, _, rfl, rfl, .inl ⟨by decide, by decide⟩, _, _, rfl, rfl, ?_⟩
      refine ⟨_, rfl, 6, rfl, a, _, rfl, hS, fun q hq => ?_⟩
      refine ⟨q, rfl, ⟨_, SqL.of upd_same⟩, for_list (K := K) (a := q) (xs := cutV (ns.map V.int) none (some 6)) (fun i σ H2 => ∃ (own st : Int) (cell : Option V), σ = [some (.ref a), some (.int t), some (.int own), some (.int st), cell] ∧ Builtin.Int.intBits own ≤ 1048576 ∧ Same (upd H q (.lst (cutV (ns.map V.int) none (some 6)))) H2 ∧ 0 ≤ st ∧ st < 2147483648) ⟨_, _, none, rfl, hob, Same.refl _, by omega, by omega⟩ (fun i σ H2 _ ⟨_, _, _, _, _, s2, _⟩ => s2.seq (SqL.of upd_same)) ?_ ?_⟩
      · rintro i y σ H2 hi ⟨own, st, cell, rfl, hob, s2, h0, h1⟩
        obtain ⟨z, rfl⟩ := cut_ints hi
        refine ⟨_, rfl, _, _, rfl, rfl, .inl ⟨by omega, by omega⟩, _, rfl, _, _, rfl, rfl, .inr ⟨by decide, by decide⟩, _, _, rfl, rfl, _, _, rfl, rfl, .inl ⟨_, rfl, _, _, rfl, rfl, (by show (0 : Int) < 2147483629; decide), ?_⟩⟩
        exact ⟨own, _, _, rfl, hob, s2, Int.emod_nonneg _ (by decide), Int.lt_of_lt_of_le (Int.emod_lt_of_pos _ (by decide)) (by decide)⟩
      · rintro σ H2 ⟨own, st, cell, rfl, hob, s2, h0, h1⟩
        have sH : Same H H2 := fun b o e => s2 b o (by rw [upd_ne (ne_of_none e hq)]; exact e)
        refine ⟨_, rfl, _, _, rfl, rfl, _, rfl, ?_⟩
        refine ite2 (fun ho => ?_) (fun ho => ?_)
        · refine iteT ⟨_, rfl, _, rfl, ?_⟩
          refine ⟨_, rfl, _, _, rfl, rfl, .inl ⟨by omega, by omega⟩, _, rfl, _, rfl, _, _, rfl, rfl, bits_ok hob, _, _, rfl, rfl, _, rfl, _, _, rfl, rfl, .inl ⟨by decide, by decide⟩, _, _, rfl, rfl, .inl ⟨_, rfl, _, _, rfl, rfl, (by show (0 : Int) < 2147483629; decide), (by show 3 ≤ sizeLine; decide), fun r hr' => ?_⟩⟩
          refine k r _ (fun b o e => by rw [upd_ne (ne_of_none (sH b o e) hr')]; exact sH b o e) (sH.free hr') ⟨_, _, 0, upd_same, ?_, Int.emod_nonneg _ (by decide), Int.lt_of_lt_of_le (Int.emod_lt_of_pos _ (by decide)) (by decide)⟩
          have ho' : own < 0 := of_decide_eq_true ho
          rw [if_pos ho']
          omega
        · refine ⟨_, rfl, _, _, rfl, rfl, ⟨by decide, by decide, by decide⟩, _, _, rfl, rfl, _, rfl, ?_⟩
          refine ite2 (fun ho2 => ?_) (fun ho2 => ?_)
          · refine ⟨_, rfl, _, rfl, ?_⟩
            refine ⟨_, rfl, _, _, rfl, rfl, .inl ⟨by omega, by omega⟩, _, rfl, _, rfl, _, _, rfl, rfl, bits_ok hob, _, _, rfl, rfl, _, rfl, _, _, rfl, rfl, .inl ⟨by decide, by decide⟩, _, _, rfl, rfl, .inl ⟨_, rfl, _, _, rfl, rfl, (by show (0 : Int) < 2147483629; decide), (by show 3 ≤ sizeLine; decide), fun r hr' => ?_⟩⟩
            refine k r _ (fun b o e => by rw [upd_ne (ne_of_none (sH b o e) hr')]; exact sH b o e) (sH.free hr') ⟨_, _, 0, upd_same, ?_, Int.emod_nonneg _ (by decide), Int.lt_of_lt_of_le (Int.emod_lt_of_pos _ (by decide)) (by decide)⟩
            have ho' : ¬ own < 0 := fun z => ho (decide_eq_true z)
            rw [if_neg ho']
            omega
          · skip
            refine ⟨_, rfl, _, _, rfl, rfl, .inl ⟨by omega, by omega⟩, _, rfl, _, rfl, _, _, rfl, rfl, bits_ok hob, _, _, rfl, rfl, _, rfl, _, _, rfl, rfl, .inl ⟨by decide, by decide⟩, _, _, rfl, rfl, .inl ⟨_, rfl, _, _, rfl, rfl, (by show (0 : Int) < 2147483629; decide), (by show 3 ≤ sizeLine; decide), fun r hr' => ?_⟩⟩
            refine k r _ (fun b o e => by rw [upd_ne (ne_of_none (sH b o e) hr')]; exact sH b o e) (sH.free hr') ⟨_, _, 0, upd_same, ?_, Int.emod_nonneg _ (by decide), Int.lt_of_lt_of_le (Int.emod_lt_of_pos _ (by decide)) (by decide)⟩
            exact Int.le_refl 0
end
end K5
set_option Elab.async false
set_option linter.all false
set_option maxRecDepth 100000
set_option maxHeartbeats 8000000
namespace K5
open PySem PySem.Spec PyProof.Rows L2 Gd Rl
open Pg (nolD nolAll nameS fD OkF cut_take)
abbrev sTags : Stmt := top 61
/-! ### what is no list stays -/
def Nl (H H' : Hp) : Prop := ∀ b o, H b = some o → (∀ xs, o ≠ .lst xs) → H' b = some o
theorem Nl.refl {H : Hp} : Nl H H := fun _ _ e _ => e
theorem Nl.trans {H H1 H2 : Hp} (a : Nl H H1) (b : Nl H1 H2) : Nl H H2 := fun c o e n => b c o (a c o e n) n
theorem nl_same {H H' : Hp} (s : Same H H') : Nl H H' := fun b o e _ => s b o e
theorem But.nl {p : Addr} {H H' : Hp} (b : But p H H') (hp : Pail H p) : Nl H H' := fun c o e n => b c o e fun q => by
  obtain ⟨o1, st, k, h, _⟩ := hp
  rw [q, h] at e
  cases e
  exact n _ rfl
theorem nl_upd {H : Hp} {l : Addr} {X Y : List V} (h : H l = some (.lst X)) : Nl H (upd H l (.lst Y)) := fun b o e n => by
  rw [upd_ne (fun q => by rw [q, h] at e; cases e; exact n _ rfl)]
  exact e
theorem nl_del {H : Hp} {l : Addr} {X : List V} (h : H l = some (.lst X)) : Nl H (delH H l) := fun b o e n => by
  rw [delH_ne (fun q => by rw [q, h] at e; cases e; exact n _ rfl)]
  exact e
theorem seqT_nl {K : PySem.W.Frag} {H H' : Hp} {a : Addr} {xs : List V} (s : Nl H H') (h : SqT K H a xs) : SqT K H' a xs := by
  rcases h with (h | ⟨o, h⟩) | h
  · exact .inl (.inl (s _ _ h fun _ q => nomatch q))
  · exact .inl (.inr ⟨o, s _ _ h fun _ q => nomatch q⟩)
  · exact .inr h
mutual
theorem dp_nl {K : PySem.W.Frag} {H H' : Hp} (s : Nl H H') : ∀ (d : PyData) {v : V}, nolD d = true → Dp K H v d → Dp K H' v d
  | .none, _, _, h => by cases h; exact .non
  | .bool b, _, _, h => by cases h; exact .bl b
  | .int i, _, _, h => by cases h; exact .int i
  | .str z, _, _, h => by cases h; exact .str z
  | .list ds, _, n, _ => by cases n
  | .tuple ds, _, n, h => by
    cases h with
    | tup hs ha => exact .tup (seqT_nl s hs) (dp_nlAll s ds (by rw [nolD] at n; exact n) ha)
  | .dict _, _, _, h => by cases h
theorem dp_nlAll {K : PySem.W.Frag} {H H' : Hp} (s : Nl H H') : ∀ (ds : List PyData) {vs : List V}, nolAll ds = true → DpAll K H vs ds → DpAll K H' vs ds
  | [], _, _, h => by cases h; exact .nil
  | d :: ds, _, n, h => by
    rw [nolAll, Bool.and_eq_true] at n
    cases h with
    | cons h1 h2 => exact .cons (dp_nl s d n.1 h1) (dp_nlAll s ds n.2 h2)
end
theorem Pail.same {H H' : Hp} {p : Addr} (h : Pail H p) (e : Same H H') : Pail H' p := by
  obtain ⟨o, st, c, h1, h2⟩ := h
  exact ⟨o, st, c, e _ _ h1, h2⟩
theorem Pail.ne {H : Hp} {p l : Addr} (h : Pail H p) (n : H l = none) : p ≠ l := by
  obtain ⟨o, st, c, h1, h2⟩ := h
  exact ne_of_none h1 n
theorem Pail.upd {H : Hp} {p l : Addr} {o : HO} (h : Pail H p) (n : p ≠ l) : Pail (upd H l o) p := by
  obtain ⟨o1, st, c, h1, h2⟩ := h
  exact ⟨o1, st, c, by rw [upd_ne n]; exact h1, h2⟩
theorem but_same {p : Addr} {H H' : Hp} (s : Same H H') : But p H H' := fun b o e _ => s b o e
section
variable {P : Program} {w : World} {K : PySem.W.Frag} {mg : Str → Option Value} {base : Heap} {f : Addr} {fd : FuncData}
/-! ### names drawn -/
def menuS : List Str := ["x", "y", "a", "b", "k9", "vars", "say", "then", "test", "branch", "abcdefgh", "n", "z0000000", "undo"]
def tagsS (k : Nat) : List Str := (menuS.drop k ++ menuS.take k).take 6
structure OkG (l : List Str) : Prop where
  six : l.length = 6
  nd : l.Nodup
  nm : ∀ z ∈ l, nameS z = true
def okGb (l : List Str) : Bool := decide (l.length = 6) && decide l.Nodup && l.all nameS
theorem okG_of {l : List Str} (h : okGb l = true) : OkG l := by
  unfold okGb at h
  simp only [Bool.and_eq_true, decide_eq_true_eq] at h
  exact ⟨h.1.1, h.1.2, List.all_eq_true.mp h.2⟩
theorem tags_all : ((List.range 14).all fun k => okGb (tagsS k)) = true := by decide +kernel
theorem tags_ok {k : Nat} (h : k < 14) : OkG (tagsS k) := okG_of (List.all_eq_true.mp tags_all k (List.mem_range.mpr h))
def spTags : Sp := fun vs H Q _ => ∃ p : Addr, vs = [.ref p, .int 6] ∧ Pail H p ∧ ∀ (q : Addr) (l : List Str) (H' : Hp), OkG l → H q = none → H' q = some (.lst (l.map V.str)) → Pail H' p → But p H H' → Q (.ref q) H'
theorem scTags : FnScope ["_law_pail", "_law_many", "_law_menu", "_law_at"] ["_law_pail", "_law_many"] (defScope sTags) := ⟨rfl, rfl, rfl, by decide +kernel, rfl, by decide +kernel, by decide +kernel⟩
theorem ok_tags {fC : Addr} {dC : FuncData} (F : FnP K "_law_tags" sTags f fd) (T : Bl mg) (FC : FnP K "_law_cast" sCast fC dC) (gC : mg "_law_cast" = some (.ref fC)) : FnOk P w K mg base CX0 2 f fd ["_law_pail", "_law_many"] spTags := by
  have GC : FnOk P w K mg base CX0 1 fC dC ["_law_pail", "_law_many"] spCast := ok_cast FC T
  have bC : Binds K dC ["_law_pail", "_law_many"] [] := FC.bindsN fun _ _ _ _ _ _ us hl => match us, hl with | [_, _], _ => rfl
  refine F.ok scTags (fun vs H Q E h => ?_) (fun cdv A outer s H vs Q E hr h => ?_)
  · obtain ⟨p, rfl, _⟩ := h
    rfl
  · obtain ⟨p, rfl, hp, k⟩ := h
    refine ⟨_, PSs.nox <| pss_cons (ps_set (i := 2) scTags.nd rfl (.inl rfl) (pe_lstR <| pa_cons pe_str <| pa_cons pe_str <| pa_cons pe_str <| pa_cons pe_str <| pa_cons pe_str <| pa_cons pe_str <| pa_cons pe_str <| pa_cons pe_str <| pa_cons pe_str <| pa_cons pe_str <| pa_cons pe_str <| pa_cons pe_str <| pa_cons pe_str <| pa_cons pe_str pa_nil))
      <| pss_cons (ps_set (i := 3) scTags.nd rfl (.inl rfl) (pe_call GC hr (by rfl) gC FC.kp bC .nil pass0 (pa_cons (pv 0) (pa_cons (pe_callB call_len (by rfl) T.len PySem.boot_len (pa_cons (pv 2) pa_nil)) pa_nil))))
      <| pss_one (ps_ret (pe_slice (r := rSlR K) sl_listR (pe_op op_catR (pe_slice (r := rSlR K) sl_listR (pv 2) (po_some (pv 3)) po_none) (pe_slice (r := rSlR K) sl_listR (pv 2) po_none (po_some (pv 3)))) po_none (po_some (pv 1)))), ?_⟩
    refine ⟨(show 14 ≤ 1000 by decide), fun m H1 n1 => ?_⟩
    have e1 : H1 m = some (.lst (menuS.map V.str)) := n1.2.1
    have hp1 := hp.same n1.2.2
    refine ⟨_, rfl, _, rfl, _, 14, rfl, .inl ⟨_, SqL.of e1, rfl⟩, p, _, rfl, hp1, by decide, by decide, fun r H2 r0 r1 hp2 b2 => ?_⟩
    obtain ⟨j, rfl⟩ := Int.eq_ofNat_of_zero_le r0
    have hj : j < 14 := by omega
    have nm : m ≠ p := (hp.ne n1.1).symm
    have e2 := b2 m _ e1 nm
    have lm : (menuS.map V.str).length = 14 := rfl
    have c1 : cutV (menuS.map V.str) (some (j : Int)) none = (menuS.drop j).map V.str := by
      unfold cutV
      rw [HT.sIx_nat, HT.sIx_none, lm, Nat.min_eq_left (by omega), List.map_drop]
      apply List.take_of_length_le
      rw [List.length_drop, lm]
      exact Nat.le_refl _
    have c2 : cutV (menuS.map V.str) none (some (j : Int)) = (menuS.take j).map V.str := by
      rw [cut_take (by omega), List.map_take]
    refine ⟨_, rfl, _, rfl, _, rfl, m, _, rfl, SqL.of e2, fun q1 H3 n3 => ?_⟩
    refine ⟨_, rfl, _, rfl, _, rfl, m, _, rfl, SqL.of (n3.2.2 _ _ e2), fun q2 H4 n4 => ?_⟩
    rw [c1] at n3
    rw [c2] at n4
    have l1 : (menuS.drop j).length ≤ 14 := by
      rw [List.length_drop]
      exact Nat.sub_le _ _
    have l2 : (menuS.take j).length ≤ 14 := by
      rw [List.length_take]
      exact Nat.min_le_right _ _
    refine ⟨q1, q2, _, _, rfl, rfl, n4.2.2 _ _ n3.2.1, n4.2.1, by rw [List.length_map, List.length_map]; omega, fun q3 H5 n5 => ?_⟩
    refine ⟨_, rfl, _, rfl, q3, _, rfl, SqL.of n5.2.1, fun q4 H6 n6 => ?_⟩
    have c3 : cutV ((menuS.drop j).map V.str ++ (menuS.take j).map V.str) none (some 6) = (tagsS j).map V.str := by
      rw [← List.map_append, show (6 : Int) = ((6 : Nat) : Int) from rfl, cut_take, ← List.map_take]
      · rfl
      · rw [List.length_map, List.length_append, List.length_drop, List.length_take]
        show 6 ≤ (14 - j) + min j 14
        omega
    rw [c3] at n6
    have s26 := n3.2.2.trans (n4.2.2.trans (n5.2.2.trans n6.2.2))
    refine k q4 _ H6 (tags_ok hj) ?_ n6.2.1 (hp2.same s26) ((but_same n1.2.2).trans (b2.trans (but_same s26)))
    cases e : H q4 with
    | none => rfl
    | some o =>
      by_cases hq : q4 = p
      · obtain ⟨o1, st, c, h1, _⟩ := hp2.same (n3.2.2.trans (n4.2.2.trans n5.2.2))
        rw [← hq, n6.1] at h1
        cases h1
      · have z := (n3.2.2.trans (n4.2.2.trans n5.2.2)) _ _ (b2 _ _ (n1.2.2 _ _ e) hq)
        rw [n6.1] at z
        cases z
/-! ### a form drawn -/
structure RangeB (mg : Str → Option Value) : Prop where
  range : mg "range" = none
  tuple : mg "tuple" = none
end
end K5
set_option Elab.async false
set_option linter.all false
set_option maxRecDepth 100000
set_option maxHeartbeats 8000000
namespace Pg
open PySem PySem.Spec PyProof.Rows L2 Gd Rl
theorem dp_len' {K : PySem.W.Frag} {H : Hp} {vs : List V} {ds : List PyData} (h : DpAll K H vs ds) : vs.length = ds.length := dp_len h
theorem dp_sameD {K : PySem.W.Frag} {H H' : Hp} {v : V} {d : PyData} (s : Same H H') (h : Dp K H v d) : Dp K H' v d := dp_same s d h
theorem dp_sameAllD {K : PySem.W.Frag} {H H' : Hp} {vs : List V} {ds : List PyData} (s : Same H H') (h : DpAll K H vs ds) : DpAll K H' vs ds := dp_sameAll s ds h
theorem nol_says (ss : List (Str × List Int)) : nolD (saysD ss) = true := by
  unfold saysD
  rw [nolD]
  exact nol_map nol_say ss
end Pg
namespace K5
open PySem PySem.Spec PyProof.Rows L2 Gd Rl
open Pg (nolD nolAll nameS nameB fD OkF cut_take Arm sayD armD namesD saysD armsD placesS standS firsts firstB OkN OkS OkA OkP ArmOk formB formsB sayB numB nol_map nol_f nol_fs nol_say nol_arm dp_snoc list_is strs_at iteDN iteDY)
/-! ### few places -/
theorem pigeon : ∀ {xs ys : List Str}, xs.Nodup → (∀ z ∈ xs, z ∈ ys) → xs.length ≤ ys.length
  | [], _, _, _ => Nat.zero_le _
  | x :: xs, ys, nd, h => by
    have hx := h x (List.mem_cons_self ..)
    have nd2 := List.nodup_cons.mp nd
    have ih := pigeon (ys := ys.erase x) nd2.2 fun z hz => (List.mem_erase_of_ne (fun e : z = x => nd2.1 (by rw [← e]; exact hz))).mpr (h z (List.mem_cons_of_mem _ hz))
    rw [List.length_erase_of_mem hx] at ih
    have := List.length_pos_of_mem hx
    rw [List.length_cons]
    omega
theorem firsts_mem {l : List Str} : ∀ z ∈ firsts l, z ∈ l := by
  intro z hz
  unfold firsts at hz
  obtain ⟨i, hi, rfl⟩ := List.mem_map.mp hz
  have hi2 := List.mem_range.mp (List.mem_filter.mp hi).1
  rw [List.getD_eq_getElem?_getD, List.getElem?_eq_getElem hi2]
  exact List.getElem_mem hi2
theorem firsts_nodup (l : List Str) : (firsts l).Nodup := by
  unfold firsts
  rw [List.Nodup, List.pairwise_map]
  refine List.Pairwise.imp_of_mem (fun {i j} hi hj hlt => ?_) (List.Pairwise.filter _ List.pairwise_lt_range)
  have hj2 := List.mem_range.mp (List.mem_filter.mp hj).1
  have hf := (List.mem_filter.mp hj).2
  intro e
  unfold firstB at hf
  rw [← e] at hf
  have hm : l.getD i "" ∈ l.take j := by
    have hi2 : i < l.length := by omega
    rw [List.getD_eq_getElem?_getD, List.getElem?_eq_getElem hi2]
    show l[i] ∈ l.take j
    refine List.mem_of_getElem? (i := i) ?_
    rw [List.getElem?_take_of_lt hlt, List.getElem?_eq_getElem hi2]
  have hc : (l.take j).contains (l.getD i "") = true := by simpa using hm
  rw [hc] at hf
  cases hf
theorem places_few {sp : List Str} {ss : List (Str × List Int)} {as : List Arm} (h1 : ∀ s ∈ ss, s.1 ∈ sp) (h2 : ∀ a ∈ as, a.src ∈ sp ∧ a.tgt ∈ sp) : (placesS ss as).length ≤ sp.length := by
  refine pigeon (firsts_nodup _) fun z hz => ?_
  have hm := firsts_mem z hz
  unfold standS at hm
  rcases List.mem_append.mp hm with hm | hm
  · obtain ⟨s, hs, rfl⟩ := List.mem_map.mp hm
    exact h1 s hs
  · obtain ⟨q, hq, hm⟩ := List.mem_flatten.mp hm
    obtain ⟨a, ha, rfl⟩ := List.mem_map.mp hq
    have ha2 := h2 a ha
    rcases List.mem_cons.mp hm with rfl | hm
    · exact ha2.1
    · rw [List.mem_singleton.mp hm]
      exact ha2.2
/-! ### right forms -/
structure FmOk (m : Nat) (g : List Int) : Prop where
  len : g.length = m + 1
  num : ∀ i ∈ g, -1000000 ≤ i ∧ i ≤ 1000000
theorem form_of {m : Nat} {g : List Int} (h : FmOk m g) : formB m (fD g) = true := by
  show (decide ((g.map PyData.int).length = m + 1) && (g.map PyData.int).all numB) = true
  rw [Bool.and_eq_true, decide_eq_true_eq, List.length_map, List.all_map, List.all_eq_true]
  refine ⟨h.len, fun i hi => ?_⟩
  show (decide (-1000000 ≤ i) && decide (i ≤ 1000000)) = true
  have := h.num i hi
  simp [this.1, this.2]
theorem forms_of {m : Nat} {gs : List (List Int)} (h : ∀ g ∈ gs, FmOk m g) : formsB m (.tuple (gs.map fD)) = true := by
  show (gs.map fD).all (formB m) = true
  rw [List.all_map, List.all_eq_true]
  exact fun g hg => form_of (h g hg)
theorem say_of {m : Nat} {s : Str × List Int} (h1 : nameS s.1 = true) (h2 : FmOk m s.2) : sayB m (sayD s) = true := by
  show (nameS s.1 && formB m (fD s.2)) = true
  rw [h1, form_of h2]
  rfl
section
variable {P : Program} {w : World} {K : PySem.W.Frag} {mg : Str → Option Value} {base : Heap} {f : Addr} {fd : FuncData}
theorem none_but {p q : Addr} {H H1 : Hp} (b : But p H H1) (hp : Pail H1 p) (n : H1 q = none) : H q = none := by
  cases e : H q with
  | none => rfl
  | some o =>
    have z := b q o e (fun h => by
      obtain ⟨o1, st, c, h1, _⟩ := hp
      rw [← h, n] at h1
      cases h1)
    rw [n] at z
    cases z
end
end K5
set_option Elab.async false
set_option linter.all false
set_option maxRecDepth 100000
set_option maxHeartbeats 8000000
namespace L2
open PySem PySem.Spec PyProof.Rows
theorem tuple_mulOne (l : Addr) (items : Array Value) (n : Nat) (dd : Option Addr) (sl : Array (Option Value)) (u : Tok) :
    Meets (Builtin.«tuple.__mul__» ⟨[.ref l, .int 1 u], []⟩) (fun _ R s => s.heap.get? l = some { cls := .type "tuple", dict := dd, data := .seq items n, slots := sl } ∧
      R (.ok (.ret (Value.ref l))) s) :=
  .of_wp fun prog w A R s h => by
    obtain ⟨hp, g, d, tk, os⟩ := s
    obtain ⟨hl, h⟩ := h
    have f1 := AutoSeq1.idx_int
    have c0 : (decide ((1 : Int) < -(2 ^ 63)) || decide ((1 : Int) ≥ 2 ^ 63)) = false := by decide
    have c1 : (items.isEmpty || (1 : Int) == 1) = true := by rw [show ((1 : Int) == 1) = true from rfl, Bool.or_true]
    wp_walk using wpAny_loadPart' hl
    repeat (first
      | (refine wpAny_ite_false (decide_eq_false (by rw [c0]; exact Bool.false_ne_true)) ?_; wp_walk using wpAny_loadPart' hl)
      | (refine wpAny_ite_true (decide_eq_true c1) ?_; wp_walk using wpAny_loadPart' hl))
    exact ⟨_, rfl, h⟩
def rRep1 (K : PySem.W.Frag) : R2 := fun x y H Q => ∃ l xs, x = .ref l ∧ y = .int 1 ∧ SqT K H l xs ∧ Q (.ref l) H
section
variable {X : Cx}
theorem op_rep1 : OpR X (binaryOp .Mult) (rRep1 X.K) := by
  intro pins s σ H x y v u Q I rx ry h
  obtain ⟨l, xs, rfl, rfl, hT, q⟩ := h
  cases rx
  obtain ⟨t, rfl⟩ := ry
  obtain ⟨its, r, ⟨⟨cls, dd, data, sl⟩, ho, hc, n, hd⟩, hs⟩ := I.tuple hT
  simp only at hc hd
  subst hc hd
  refine wpAny_binaryOp_repeat_ref (T := "tuple") (U := "int") (by decide) ⟨_, ho, rfl⟩ (fun s' => typeIs_int s' 1 t) noFill_tuple_mul F.fills_int_mul F.slot_int_rmul repeat_tuple F.slot_int_index.lookup
    (call_meets F.slot_int_rmul (typeIs_int s 1 t) F.entry_int_rmul (F.args_int_rmul_2 _ _) (int_rmul_tuple 1 t l its.toArray n dd sl)
      ⟨ho, rfl, ⟨_, ho, rfl⟩, call_meets F.slot_tuple_mul ⟨_, ho, rfl⟩ F.entry_tuple_mul (F.args_tuple_mul_2 _ _) (tuple_mulOne l its.toArray n dd sl t) ⟨ho, ?_⟩⟩)
  exact ⟨.ref l, H, I, rfl, q⟩
end
end L2
namespace L2
open PySem PySem.Spec PyProof.Rows
/-- a tuple some times, once at least -/
def rRepA (K : PySem.W.Frag) : R2 := fun x y H Q => ∃ l k xs, x = .ref l ∧ y = .int k ∧ SqT K H l xs ∧ xs ≠ [] ∧ 1 ≤ k ∧ k ≤ 1000 ∧ xs.length ≤ 1000 ∧ ∀ q H', (∀ b o, H b = some o → H' b = some o) → SqT K H' q (List.replicate k.toNat xs).flatten → Q (.ref q) H'
section
variable {X : Cx}
theorem op_repA : OpR X (binaryOp .Mult) (rRepA X.K) := by
  intro pins s σ H x y v u Q I rx ry h
  obtain ⟨l, k, xs, rfl, rfl, hT, hne, h1, h2, h3, q⟩ := h
  by_cases hk : k = 1
  · subst hk
    refine op_rep1 pins s σ H _ _ _ _ Q I rx ry ⟨l, xs, rfl, rfl, hT, q l H (fun _ _ e => e) ?_⟩
    show SqT X.K H l (xs ++ [])
    rw [List.append_nil]
    exact hT
  · refine op_repT pins s σ H _ _ _ _ Q I rx ry ⟨l, k, xs, rfl, rfl, hT, hne, by omega, h2, h3, fun p np => q p _ (fun b o e => ?_) (SqT.of upd_same)⟩
    rw [upd_ne (fun h => by rw [h, np] at e; cases e)]
    exact e
end
end L2
set_option Elab.async false
set_option linter.all false
set_option maxRecDepth 100000
set_option maxHeartbeats 8000000
namespace K5
open PySem PySem.Spec PyProof.Rows L2 Gd Rl
open Pg (rSlTR sl_tupR fd_ints nolD nolAll nameS nameB fD OkF cut_take Arm sayD armD namesD saysD armsD OkN OkS OkA OkP ArmOk dp_ints list_is)
abbrev sUnit : Stmt := top 71
abbrev sShift : Stmt := top 72
abbrev sLittle : Stmt := top 73
/-- a form for m variables, its numbers from -b to b -/
def FB (b : Int) (m : Nat) (g : List Int) : Prop := g.length = m + 1 ∧ ∀ i ∈ g, -b ≤ i ∧ i ≤ b
theorem FB.mono {b c : Int} {m : Nat} {g : List Int} (h : FB b m g) (l : b ≤ c) : FB c m g := ⟨h.1, fun i hi => by have := h.2 i hi; omega⟩
theorem FB.getD {b : Int} {m : Nat} {g : List Int} (h : FB b m g) {i : Nat} (hi : i < m + 1) : -b ≤ g.getD i 0 ∧ g.getD i 0 ≤ b := by
  apply h.2
  rw [List.getD_eq_getElem?_getD, List.getElem?_eq_getElem (by rw [h.1]; exact hi)]
  exact List.getElem_mem _
theorem ints_of {ys : List V} {n : Nat} {b : Int} (hl : ys.length = n) (h : ∀ (i : Nat) (y : V), ys[i]? = some y → ∃ z : Int, y = .int z ∧ -b ≤ z ∧ z ≤ b) : ∃ g : List Int, ys = g.map V.int ∧ g.length = n ∧ ∀ z ∈ g, -b ≤ z ∧ z ≤ b := by
  subst hl
  induction ys with
  | nil => exact ⟨[], rfl, rfl, fun _ h => by cases h⟩
  | cons y ys ih =>
    obtain ⟨z, rfl, hz⟩ := h 0 y rfl
    obtain ⟨g, rfl, e2, e3⟩ := ih fun i y e => h (i + 1) y (by simpa using e)
    refine ⟨z :: g, rfl, by simp, fun q hq => ?_⟩
    rcases List.mem_cons.mp hq with rfl | hq
    · exact hz
    · exact e3 q hq
section
variable {P : Program} {w : World} {K : PySem.W.Frag} {mg : Str → Option Value} {base : Heap} {f : Addr} {fd : FuncData}
/-! ### a number of any size -/
def spUnit (K : PySem.W.Frag) : Sp := fun vs H Q _ => ∃ (m : Nat) (a : Int), vs = [.int m, .int a] ∧ m ≤ 3 ∧ ∀ (v : V) (g : List Int) (H' : Hp), FB 1 m g → Same H H' → Dp K H' v (fD g) → Q v H'
abbrev nUnit : List Str := ["_law_size", "_law_at", "_law_k"]
theorem scUnit : FnScope nUnit ["_law_size", "_law_at"] (defScope sUnit) := ⟨rfl, rfl, rfl, by decide +kernel, rfl, by decide +kernel, by decide +kernel⟩
theorem ok_unit (F : FnP K "_law_unit" sUnit f fd) (T : Bl mg) (R : RangeB mg) : FnOk P w K mg base CX0 1 f fd ["_law_size", "_law_at"] (spUnit K) := by
  refine F.ok scUnit (fun vs H Q E h => ?_) (fun cdv A outer s H vs Q E hr h => ?_)
  · obtain ⟨m, a, rfl, _⟩ := h
    rfl
  · obtain ⟨m, a, rfl, m3, k⟩ := h
    refine ⟨_, PSs.nox <| pss_one (ps_ret (pe_callTy call_tuple_of (by rfl) R.tuple (by decide +kernel) (pa_cons (pe_lc (own := [("_law_k", 2)]) (g := gName 2) (tt := tYes) rfl scUnit.nd (pi_range1 (by rfl) R.range (pa_cons (pe_op op_add (pv 0) pe_int) pa_nil)) (blkOk_by (N := nUnit) (sc := defScope sUnit) (by decide +kernel)) (fun _ _ _ _ _ => pg_name (i := 2) scUnit.nd rfl (Or.inl rfl)) (fun _ _ _ _ _ => pts_nil)
        (fun _ _ _ _ _ => pe_callTy call_int1 (by rfl) T.int (by decide +kernel) (pa_cons (pe_cmpR op_eq (pv 2) (pv 1) (nomark _)) pa_nil))) pa_nil))), ?_⟩
    refine ⟨_, rfl, _, _, rfl, rfl, _, rfl, by omega, by omega, lcR (walk_range (lo := 0) (n := ((m : Int) + 1).toNat)) (n1 := by omega) (fun _ _ => trivial) (fun i y _ => ∃ z : Int, y = .int z ∧ -1 ≤ z ∧ z ≤ 1) (fun _ _ _ _ _ e => e) ?_ ?_⟩
    · rintro D acc i x Ha Hb K2 hi s nD hD ⟨rfl, rfl⟩ kk
      refine ⟨rfl, _, rfl, _, rfl, rfl, .inr ⟨_, rfl, kk _ _ (Same.refl _) ⟨_, rfl, ?_⟩⟩⟩
      split <;> omega
    · rintro D Hb ys nw hlen he
      obtain ⟨g, rfl, lg, hg⟩ := ints_of hlen he
      refine ⟨D, _, rfl, .inl ⟨SqL.of nw.2.1, fun q1 nq1 => ?_⟩⟩
      exact k _ g _ ⟨by omega, hg⟩ (nw.2.2.trans (same_new nq1)) (dp_ints (SqT.of upd_same))
/-! ### a form with a number more at its end -/
def spShift (K : PySem.W.Frag) : Sp := fun vs H Q _ => ∃ (u : V) (b c : Int) (m : Nat) (g : List Int), vs = [u, .int c] ∧ Dp K H u (fD g) ∧ FB b m g ∧ m ≤ 3 ∧ -b ≤ c ∧ c ≤ b ∧ 0 ≤ b ∧ ∀ (v : V) (g' : List Int) (H' : Hp), FB (2 * b) m g' → Same H H' → Dp K H' v (fD g') → Q v H'
theorem scShift : FnScope ["_law_some", "_law_by"] ["_law_some", "_law_by"] (defScope sShift) := ⟨rfl, rfl, rfl, by decide +kernel, rfl, by decide +kernel, by decide +kernel⟩
theorem ok_shift (F : FnP K "_law_shift" sShift f fd) : FnOk P w K mg base CX0 1 f fd ["_law_some", "_law_by"] (spShift K) := by
  refine F.ok scShift (fun vs H Q E h => ?_) (fun cdv A outer s H vs Q E hr h => ?_)
  · obtain ⟨u, b, c, m, g, rfl, _⟩ := h
    rfl
  · obtain ⟨u, b, c, m, g, rfl, hu, hg, m3, c0, c1, b0, k⟩ := h
    refine ⟨_, PSs.nox <| pss_one (ps_ret (pe_op op_catA (pe_slice (r := rSlTR K) sl_tupR (pv 0) po_none (po_some (pe_un un_neg pe_int))) (pe_tupR (pa_cons (pe_op op_add (pe_ix (r := rIxT K) ix_tup (pv 0) (pe_un un_neg pe_int) (fun _ _ => rfl)) (pv 1)) pa_nil)))), ?_⟩
    obtain ⟨a, rfl, ha⟩ := fd_ints hu
    obtain ⟨hl, hn⟩ := hg
    refine ⟨_, rfl, _, rfl, _, rfl, a, _, rfl, ha, fun p H1 s1 hp => ?_⟩
    have e0 : cutV (g.map V.int) none (some (-1)) = (g.take m).map V.int := by
      unfold cutV
      rw [HT.sIx_none, List.drop_zero, Nat.sub_zero, List.length_map, hl, List.map_take]
      congr 1
      show HT.sIx (m + 1) (m + 1) (some (-1)) = m
      unfold HT.sIx
      show (if (-1 : Int) < 0 then ((-1 : Int) + ((m + 1 : Nat) : Int)).toNat else min (-1 : Int).toNat (m + 1)) = m
      rw [if_pos (by decide)]
      omega
    rw [e0] at hp
    have e1 : atI (g.map V.int) (-1) = some (.int (g.getD m 0)) := by
      have eg : g = g.take m ++ [g.getD m 0] := by
        have h1 : g.take (m + 1) = g := List.take_of_length_le (by omega)
        rw [List.take_add_one, List.getElem?_eq_getElem (by omega)] at h1
        rw [List.getD_eq_getElem?_getD, List.getElem?_eq_getElem (by omega)]
        exact h1.symm
      rw [eg, List.map_append, ← eg]
      exact atI_last _ _
    have hz := FB.getD ⟨hl, hn⟩ (show m < m + 1 by omega)
    have lt : ((g.take m).map V.int).length = m := by
      rw [List.length_map, List.length_take]
      omega
    refine ⟨_, rfl, _, rfl, a, _, -1, _, rfl, rfl, Same.seqT s1 ha, e1, _, rfl, _, _, rfl, rfl, (show 1 ≤ 1000 by decide), fun q H2 n2 => ?_⟩
    refine ⟨p, q, _, _, rfl, rfl, Same.seqT n2.2.2 hp, SqT.of n2.2.1, by rw [lt]; exact Nat.le_of_lt (small1000 (show m + 1 ≤ 1000 by omega)), fun e => ?_, fun _ e => absurd e (List.cons_ne_nil _ _), fun _ _ r nr => ?_⟩
    · refine k _ [g.getD m 0 + c] H2 ⟨?_, fun i hi => ?_⟩ (s1.trans n2.2.2) (dp_ints (SqT.of n2.2.1))
      · have z := congrArg List.length e
        rw [lt] at z
        show 1 = m + 1
        rw [show m = 0 from z]
      · rw [List.mem_singleton.mp hi]
        omega
    · refine k _ (g.take m ++ [g.getD m 0 + c]) _ ⟨?_, fun i hi => ?_⟩ (s1.trans (n2.2.2.trans (same_new nr))) (dp_ints (SqT.of ?_))
      · rw [List.length_append, List.length_take]
        show min m g.length + 1 = m + 1
        omega
      · rcases List.mem_append.mp hi with hi | hi
        · have := hn i (List.mem_of_mem_take hi)
          omega
        · rw [List.mem_singleton.mp hi]
          omega
      · rw [upd_same, List.map_append]
        rfl
/-! ### a form of small numbers -/
def spDraw (K : PySem.W.Frag) (p : Addr) (m : Nat) : Hp → VK → Prop := fun H Q => ∀ (v : V) (g : List Int) (H' : Hp), FB 100 m g → Dp K H' v (fD g) → Pail H' p → But p H H' → Q v H'
def spLittle (K : PySem.W.Frag) : Sp := fun vs H Q _ => ∃ (p : Addr) (m : Nat), vs = [.ref p, .int m] ∧ m ≤ 3 ∧ Pail H p ∧ spDraw K p m H Q
theorem scLittle : FnScope ["_law_pail", "_law_size", "_law_k"] ["_law_pail", "_law_size"] (defScope sLittle) := ⟨rfl, rfl, rfl, by decide +kernel, rfl, by decide +kernel, by decide +kernel⟩
theorem ok_little {fC : Addr} {dC : FuncData} (F : FnP K "_law_little" sLittle f fd) (T : Bl mg) (R : RangeB mg) (FC : FnP K "_law_cast" sCast fC dC) (gC : mg "_law_cast" = some (.ref fC)) : FnOk P w K mg base CX0 2 f fd ["_law_pail", "_law_size"] (spLittle K) := by
  have GC : FnOk P w K mg base CX0 1 fC dC ["_law_pail", "_law_many"] spCast := ok_cast FC T
  have bC : Binds K dC ["_law_pail", "_law_many"] [] := FC.bindsN fun _ _ _ _ _ _ us hl => match us, hl with | [_, _], _ => rfl
  refine F.ok scLittle (fun vs H Q E h => ?_) (fun cdv A outer s H vs Q E hr h => ?_)
  · obtain ⟨p, m, rfl, _⟩ := h
    rfl
  · obtain ⟨p, m, rfl, m3, hp, k⟩ := h
    refine ⟨_, PSs.nox <| pss_one (ps_ret (pe_callTy call_tuple_of (by rfl) R.tuple (by decide +kernel) (pa_cons (pe_lc (own := [("_law_k", 2)]) (g := gName 2) (tt := tYes) rfl scLittle.nd (pi_range1 (by rfl) R.range (pa_cons (pe_op op_add (pv 1) pe_int) pa_nil)) (blkOk_by (N := ["_law_pail", "_law_size", "_law_k"]) (sc := defScope sLittle) (by decide +kernel)) (fun _ _ _ _ _ => pg_name (i := 2) scLittle.nd rfl (Or.inl rfl)) (fun _ _ _ _ _ => pts_nil)
        (fun _ _ _ _ _ => pe_op op_sub (pe_call GC hr (by rfl) gC FC.kp bC .nil pass0 (pa_cons (pv 0) (pa_cons pe_int pa_nil))) pe_int)) pa_nil))), ?_⟩
    refine ⟨_, rfl, _, _, rfl, rfl, _, rfl, by omega, by omega, ?_⟩
    intro D hD
    refine lc_range (lo := 0) (n := ((m : Int) + 1).toNat) (fun i H' => ∃ g : List Int, g.length = i ∧ (∀ i ∈ g, (-100 : Int) ≤ i ∧ i ≤ 100) ∧ H' D = some (.lst (g.map V.int)) ∧ Pail H' p ∧ But p H H') ⟨[], rfl, (fun _ h => by cases h), upd_same, hp.upd (hp.ne hD), but_same (same_new hD)⟩ ?_ ?_
    · rintro i H2 hi ⟨g, lg, hg, hD2, hp2, b2⟩
      refine ⟨rfl, _, rfl, p, _, rfl, hp2, by decide, by decide, fun n H3 n0 n1 hp3 b3 => ?_⟩
      have hD3 := b3 D _ hD2 (hp.ne hD).symm
      refine ⟨_, _, rfl, rfl, _, hD3, small1000 (by rw [List.length_map]; omega), g ++ [n - 2], by rw [List.length_append, lg]; rfl, fun z hz => ?_, ?_, hp3.upd (hp.ne hD), ?_⟩
      · rcases List.mem_append.mp hz with hz | hz
        · exact hg z hz
        · rw [List.mem_singleton.mp hz]
          omega
      · rw [upd_same, List.map_append]
        rfl
      · intro b o e nb
        rw [upd_ne (ne_of_none e hD)]
        exact b3 b o (b2 b o e nb) nb
    · rintro H2 ⟨g, lg, hg, hD2, hp2, b2⟩
      refine ⟨D, _, rfl, .inl ⟨SqL.of hD2, fun q nq => ?_⟩⟩
      exact k _ g _ ⟨by omega, hg⟩ (dp_ints (SqT.of upd_same)) (hp2.upd (hp2.ne nq)) (b2.trans (but_same (same_new nq)))
end
end K5
set_option Elab.async false
set_option linter.all false
set_option maxRecDepth 100000
set_option maxHeartbeats 8000000
namespace K5
open PySem PySem.Spec PyProof.Rows L2 Gd Rl
open Pg (rSlTR sl_tupR fd_ints nolD nolAll nameS nameB fD OkF cut_take Arm sayD armD namesD saysD armsD OkN OkS OkA OkP ArmOk dp_ints list_is)
abbrev sAsk : Stmt := top 74
abbrev sTurn : Stmt := top 75
/-- where the defs that draw small forms stand -/
structure Ds (K : PySem.W.Frag) (mg : Str → Option Value) (fC fU fS fL : Addr) (dC dU dS dL : FuncData) : Prop where
  c : FnP K "_law_cast" sCast fC dC
  u : FnP K "_law_unit" sUnit fU dU
  s : FnP K "_law_shift" sShift fS dS
  l : FnP K "_law_little" sLittle fL dL
  gc : mg "_law_cast" = some (.ref fC)
  gu : mg "_law_unit" = some (.ref fU)
  gs : mg "_law_shift" = some (.ref fS)
  gl : mg "_law_little" = some (.ref fL)
theorem fb_at {K : PySem.W.Frag} {H : Hp} {b : Int} {m : Nat} {g : List Int} {i : Nat} (h : FB b m g) (hi : i < m + 1) : atI (g.map V.int) (i : Int) = some (.int (g.getD i 0)) := by
  apply atI_nat
  rw [List.getElem?_map, List.getElem?_eq_getElem (by rw [h.1]; exact hi), List.getD_eq_getElem?_getD, List.getElem?_eq_getElem (by rw [h.1]; exact hi)]
  rfl
section
variable {P : Program} {w : World} {K : PySem.W.Frag} {mg : Str → Option Value} {base : Heap} {f : Addr} {fd : FuncData}
variable {fC fU fS fL : Addr} {dC dU dS dL : FuncData}
def spAsk (K : PySem.W.Frag) : Sp := fun vs H Q _ => ∃ (p : Addr) (m : Nat) (a : Int), vs = [.ref p, .int m, .int a] ∧ 1 ≤ m ∧ m ≤ 3 ∧ Pail H p ∧ spDraw K p m H Q
abbrev nAsk : List Str := ["_law_pail", "_law_size", "_law_at", "_law_way", "_law_other", "_law_each", "_law_k"]
theorem scAsk : FnScope nAsk ["_law_pail", "_law_size", "_law_at"] (defScope sAsk) := ⟨rfl, rfl, rfl, by decide +kernel, rfl, by decide +kernel, by decide +kernel⟩
theorem ok_ask (F : FnP K "_law_ask" sAsk f fd) (T : Bl mg) (R : RangeB mg) (D : Ds K mg fC fU fS fL dC dU dS dL) : FnOk P w K mg base CX0 3 f fd ["_law_pail", "_law_size", "_law_at"] (spAsk K) := by
  have GC : FnOk P w K mg base CX0 1 fC dC ["_law_pail", "_law_many"] spCast := ok_cast D.c T
  have bC : Binds K dC ["_law_pail", "_law_many"] [] := D.c.bindsN fun _ _ _ _ _ _ us hl => match us, hl with | [_, _], _ => rfl
  have GU : FnOk P w K mg base CX0 1 fU dU ["_law_size", "_law_at"] (spUnit K) := ok_unit D.u T R
  have bU : Binds K dU ["_law_size", "_law_at"] [] := D.u.bindsN fun _ _ _ _ _ _ us hl => match us, hl with | [_, _], _ => rfl
  have GS : FnOk P w K mg base CX0 1 fS dS ["_law_some", "_law_by"] (spShift K) := ok_shift D.s
  have bS : Binds K dS ["_law_some", "_law_by"] [] := D.s.bindsN fun _ _ _ _ _ _ us hl => match us, hl with | [_, _], _ => rfl
  have GL : FnOk P w K mg base CX0 2 fL dL ["_law_pail", "_law_size"] (spLittle K) := ok_little D.l T R D.c D.gc
  have bL : Binds K dL ["_law_pail", "_law_size"] [] := D.l.bindsN fun _ _ _ _ _ _ us hl => match us, hl with | [_, _], _ => rfl
  refine F.ok scAsk (fun vs H Q E h => ?_) (fun cdv A outer s H vs Q E hr h => ?_)
  · obtain ⟨p, m, a, rfl, _⟩ := h
    rfl
  · obtain ⟨p, m, a, rfl, m1, m3, hp, k⟩ := h
    have hr1 := hr.mono (show 1 ≤ 2 by decide)
    refine ⟨_, PSs.nox <| pss_cons (ps_asg (pe_tupR (pa_cons (pe_call GC hr1 (by rfl) D.gc D.c.kp bC .nil pass0 (pa_cons (pv 0) (pa_cons pe_int pa_nil))) (pa_cons (pe_call GC hr1 (by rfl) D.gc D.c.kp bC .nil pass0 (pa_cons (pv 0) (pa_cons (pv 1) pa_nil))) pa_nil))) (pg_tup (by rfl) (pgs_cons (pg_name (i := 3) scAsk.nd rfl (.inl rfl)) (pgs_cons (pg_name (i := 4) scAsk.nd rfl (.inr rfl)) pgs_nil))))
      <| pss_cons (ps_if (pt_cmpR op_lt (pv 3) pe_int (nomark _)) (pss_one (ps_ret (pe_call GS hr1 (by rfl) D.gs D.s.kp bS .nil pass0 (pa_cons (pe_call GU hr1 (by rfl) D.gu D.u.kp bU .nil pass0 (pa_cons (pv 1) (pa_cons (pv 2) pa_nil))) (pa_cons (pe_un un_neg (pe_call GC hr1 (by rfl) D.gc D.c.kp bC .nil pass0 (pa_cons (pv 0) (pa_cons pe_int pa_nil)))) pa_nil))))) pss_nil)
      <| pss_cons (ps_if (pt_cmpR op_eq (pv 3) pe_int (nomark _)) (pss_one (ps_ret (pe_call GS hr1 (by rfl) D.gs D.s.kp bS .nil pass0 (pa_cons (pe_callTy call_tuple_of (by rfl) R.tuple (by decide +kernel) (pa_cons (pe_lc (own := [("_law_each", 5)]) (g := gName 5) (tt := tYes) rfl scAsk.nd (pi_tup (pe_call GU hr1 (by rfl) D.gu D.u.kp bU .nil pass0 (pa_cons (pv 1) (pa_cons (pv 2) pa_nil)))) (blkOk_by (N := nAsk) (sc := defScope sAsk) (by decide +kernel)) (fun _ _ _ _ _ => pg_name (i := 5) scAsk.nd rfl (Or.inl rfl)) (fun _ _ _ _ _ => pts_nil)
          (fun _ _ _ _ _ => pe_un un_neg (pv 5))) pa_nil)) (pa_cons (pe_call GC hr1 (by rfl) D.gc D.c.kp bC .nil pass0 (pa_cons (pv 0) (pa_cons pe_int pa_nil))) pa_nil))))) pss_nil)
      <| pss_cons (ps_if (pt_cmpR op_eq (pv 3) pe_int (nomark _)) (pss_one (ps_ret (pe_callTy call_tuple_of (by rfl) R.tuple (by decide +kernel) (pa_cons (pe_lc (own := [("_law_k", 6)]) (g := gName 6) (tt := tYes) rfl scAsk.nd (pi_range1 (by rfl) R.range (pa_cons (pe_op op_add (pv 1) pe_int) pa_nil)) (blkOk_by (N := nAsk) (sc := defScope sAsk) (by decide +kernel)) (fun _ _ _ _ _ => pg_name (i := 6) scAsk.nd rfl (Or.inl rfl)) (fun _ _ _ _ _ => pts_nil)
          (fun _ _ _ _ _ => pe_op op_sub (pe_ix (r := rIxT K) ix_tup (pe_call GU hr1 (by rfl) D.gu D.u.kp bU .nil pass0 (pa_cons (pv 1) (pa_cons (pv 2) pa_nil))) (pv 6) (fun _ _ => rfl)) (pe_ix (r := rIxT K) ix_tup (pe_call GU hr1 (by rfl) D.gu D.u.kp bU .nil pass0 (pa_cons (pv 1) (pa_cons (pv 4) pa_nil))) (pv 6) (fun _ _ => rfl)))) pa_nil)))) pss_nil)
      <| pss_one (ps_ret (pe_call GL hr (by rfl) D.gl D.l.kp bL .nil pass0 (pa_cons (pv 0) (pa_cons (pv 1) pa_nil)))), ?_⟩
    refine ⟨_, rfl, p, _, rfl, hp, by decide, by decide, fun r1 H1 r10 r11 hp1 b1 => ⟨_, rfl, _, rfl, p, _, rfl, hp1, by omega, by omega, fun r2 H2 r20 r21 hp2 b2 => ⟨(show 2 ≤ 1000 by decide), fun T3 H3 n3 => ?_⟩⟩⟩
    refine ⟨T3, _, rfl, SqT.of n3.2.1, rfl, _, _, rfl, _, _, rfl, rfl, ?_⟩
    have hp3 := hp2.same n3.2.2
    have b3 : But p H H3 := b1.trans (b2.trans (but_same n3.2.2))
    refine ⟨_, rfl, _, _, rfl, rfl, _, rfl, ?_⟩
    refine ite2 (fun hc => ?_) (fun hc => ?_)
    · refine ⟨_, rfl, _, rfl, m, a, rfl, m3, fun v g H4 fb s4 dv => ?_⟩
      have hp4 := hp3.same s4
      refine ⟨_, rfl, p, _, rfl, hp4, by decide, by decide, fun r5 H5 r50 r51 hp5 b5 => ?_⟩
      refine ⟨_, rfl, v, 10, -r5, m, g, rfl, dp_nl (b5.nl hp4) _ (Pg.nol_f g) dv, fb.mono (by decide), m3, by omega, by omega, by decide, fun v2 g2 H6 fb2 s6 dv2 => ?_⟩
      exact k v2 g2 H6 (fb2.mono (by decide)) dv2 (hp5.same s6) (b3.trans ((but_same s4).trans (b5.trans (but_same s6))))
    · refine ⟨_, rfl, rfl, _, rfl, ?_⟩
      refine ite2 (fun hc2 => ?_) (fun hc2 => ?_)
      · refine ⟨_, rfl, _, rfl, m, a, rfl, m3, fun v g H4 fb s4 dv => ?_⟩
        have hp4 := hp3.same s4
        obtain ⟨q, rfl, hq⟩ := fd_ints dv
        refine ⟨q, rfl, ⟨_, hq⟩, lcR (walk_tup (xs := g.map V.int)) (n1 := by rw [List.length_map, fb.1]; omega) (fun H' s' => Same.seqT s' hq) (fun i y _ => ∃ z : Int, y = .int z ∧ -1 ≤ z ∧ z ≤ 1) (fun _ _ _ _ _ e => e) ?_ ?_⟩
        · rintro D acc i x Ha Hb K2 hi s nD hD ⟨rfl, ex⟩ kk
          obtain ⟨z, hz, rfl⟩ := List.mem_map.mp (List.mem_of_getElem? ex)
          have := fb.2 z hz
          exact ⟨rfl, _, rfl, _, rfl, kk _ _ (Same.refl _) ⟨-z, rfl, by omega, by omega⟩⟩
        · rintro D Hb ys nw hlen he
          obtain ⟨g2, rfl, lg2, hg2⟩ := ints_of hlen he
          rw [List.length_map, fb.1] at lg2
          refine ⟨D, _, rfl, .inl ⟨SqL.of nw.2.1, fun q1 nq1 => ?_⟩⟩
          have s5 := nw.2.2.trans (same_new (o := .tup (g2.map V.int)) nq1)
          have d5 : Dp K (upd Hb q1 (.tup (g2.map V.int))) (.ref q1) (fD g2) := dp_ints (SqT.of upd_same)
          generalize upd Hb q1 (.tup (g2.map V.int)) = H5 at s5 d5
          have hp5 := hp4.same s5
          refine ⟨_, rfl, p, _, rfl, hp5, by decide, by decide, fun r6 H6 r60 r61 hp6 b6 => ?_⟩
          refine ⟨_, 10, r6, m, g2, rfl, dp_nl (b6.nl hp5) _ (Pg.nol_f g2) d5, (show FB 1 m g2 from ⟨lg2, hg2⟩).mono (by decide), m3, by omega, by omega, by decide, fun v2 g3 H7 fb2 s7 dv2 => ?_⟩
          exact k v2 g3 H7 (fb2.mono (by decide)) dv2 (hp6.same s7) (b3.trans ((but_same (s4.trans s5)).trans (b6.trans (but_same s7))))
      · refine ⟨_, rfl, rfl, _, rfl, ?_⟩
        refine ite2 (fun hc3 => ?_) (fun hc3 => ?_)
        · refine ⟨_, rfl, _, _, rfl, rfl, _, rfl, by omega, by omega, lcR (walk_range (lo := 0) (n := ((m : Int) + 1).toNat)) (n1 := by omega) (fun _ _ => trivial) (fun i y _ => ∃ z : Int, y = .int z ∧ -100 ≤ z ∧ z ≤ 100) (fun _ _ _ _ _ e => e) ?_ ?_⟩
          · rintro D acc i x Ha Hb K2 hi s nD hD ⟨rfl, rfl⟩ kk
            have hi2 : i < m + 1 := by omega
            refine ⟨rfl, _, rfl, _, rfl, m, a, rfl, m3, fun v g H4 fb s4 dv => ?_⟩
            obtain ⟨q, rfl, hq⟩ := fd_ints dv
            refine ⟨_, rfl, q, _, (i : Int), _, rfl, by simp, hq, fb_at (K := K) (H := H4) fb hi2, ?_⟩
            refine ⟨_, rfl, _, rfl, m, r2, rfl, m3, fun v2 g2 H5 fb2 s5 dv2 => ?_⟩
            obtain ⟨q2, rfl, hq2⟩ := fd_ints dv2
            refine ⟨_, rfl, q2, _, (i : Int), _, rfl, by simp, hq2, fb_at (K := K) (H := H5) fb2 hi2, _, _, rfl, rfl, kk _ _ (s4.trans s5) ⟨_, rfl, ?_⟩⟩
            have h1 := fb.getD hi2
            have h2 := fb2.getD hi2
            omega
          · rintro D Hb ys nw hlen he
            obtain ⟨g, rfl, lg, hg⟩ := ints_of hlen he
            refine ⟨D, _, rfl, .inl ⟨SqL.of nw.2.1, fun q1 nq1 => ?_⟩⟩
            have s4 := nw.2.2.trans (same_new (o := .tup (g.map V.int)) nq1)
            exact k _ g _ ⟨by omega, hg⟩ (dp_ints (SqT.of upd_same)) (hp3.same s4) (b3.trans (but_same s4))
        · refine ⟨_, rfl, _, rfl, p, m, rfl, m3, hp3, fun v g H4 fb dv hp4 b4 => k v g H4 fb dv hp4 (b3.trans b4)⟩
theorem rep_flat (m : Nat) : (List.replicate (m : Int).toNat [V.int 0]).flatten = (List.replicate m (0 : Int)).map V.int := by
  rw [Int.toNat_natCast]
  induction m with
  | zero => rfl
  | succ m ih =>
    rw [List.replicate_succ, List.flatten_cons, ih, List.replicate_succ]
    rfl
def spTurn (K : PySem.W.Frag) : Sp := spAsk K
abbrev nTurn : List Str := ["_law_pail", "_law_size", "_law_at", "_law_way", "_law_own", "_law_other", "_law_k"]
theorem scTurn : FnScope nTurn ["_law_pail", "_law_size", "_law_at"] (defScope sTurn) := ⟨rfl, rfl, rfl, by decide +kernel, rfl, by decide +kernel, by decide +kernel⟩
theorem ok_turn (F : FnP K "_law_turn" sTurn f fd) (T : Bl mg) (R : RangeB mg) (D : Ds K mg fC fU fS fL dC dU dS dL) : FnOk P w K mg base CX0 3 f fd ["_law_pail", "_law_size", "_law_at"] (spAsk K) := by
  have GC : FnOk P w K mg base CX0 1 fC dC ["_law_pail", "_law_many"] spCast := ok_cast D.c T
  have bC : Binds K dC ["_law_pail", "_law_many"] [] := D.c.bindsN fun _ _ _ _ _ _ us hl => match us, hl with | [_, _], _ => rfl
  have GU : FnOk P w K mg base CX0 1 fU dU ["_law_size", "_law_at"] (spUnit K) := ok_unit D.u T R
  have bU : Binds K dU ["_law_size", "_law_at"] [] := D.u.bindsN fun _ _ _ _ _ _ us hl => match us, hl with | [_, _], _ => rfl
  have GS : FnOk P w K mg base CX0 1 fS dS ["_law_some", "_law_by"] (spShift K) := ok_shift D.s
  have bS : Binds K dS ["_law_some", "_law_by"] [] := D.s.bindsN fun _ _ _ _ _ _ us hl => match us, hl with | [_, _], _ => rfl
  have GL : FnOk P w K mg base CX0 2 fL dL ["_law_pail", "_law_size"] (spLittle K) := ok_little D.l T R D.c D.gc
  have bL : Binds K dL ["_law_pail", "_law_size"] [] := D.l.bindsN fun _ _ _ _ _ _ us hl => match us, hl with | [_, _], _ => rfl
  refine F.ok scTurn (fun vs H Q E h => ?_) (fun cdv A outer s H vs Q E hr h => ?_)
  · obtain ⟨p, m, a, rfl, _⟩ := h
    rfl
  · obtain ⟨p, m, a, rfl, m1, m3, hp, k⟩ := h
    have hr1 := hr.mono (show 1 ≤ 2 by decide)
    refine ⟨_, PSs.nox <| pss_cons (ps_asg (pe_tupR (pa_cons (pe_call GC hr1 (by rfl) D.gc D.c.kp bC .nil pass0 (pa_cons (pv 0) (pa_cons pe_int pa_nil))) (pa_cons (pe_call GU hr1 (by rfl) D.gu D.u.kp bU .nil pass0 (pa_cons (pv 1) (pa_cons (pv 2) pa_nil))) pa_nil))) (pg_tup (by rfl) (pgs_cons (pg_name (i := 3) scTurn.nd rfl (.inl rfl)) (pgs_cons (pg_name (i := 4) scTurn.nd rfl (.inr rfl)) pgs_nil))))
      <| pss_cons (ps_if (pt_cmpR op_lt (pv 3) pe_int (nomark _)) (pss_one (ps_ret (pe_call GS hr1 (by rfl) D.gs D.s.kp bS .nil pass0 (pa_cons (pv 4) (pa_cons (pe_op op_sub (pe_un un_neg pe_int) (pe_call GC hr1 (by rfl) D.gc D.c.kp bC .nil pass0 (pa_cons (pv 0) (pa_cons pe_int pa_nil)))) pa_nil))))) pss_nil)
      <| pss_cons (ps_if (pt_cmpR op_eq (pv 3) pe_int (nomark _)) (pss_one (ps_ret (pe_op op_catA (pe_op op_repA (pe_tupR (pa_cons pe_int pa_nil)) (pv 1)) (pe_tupR (pa_cons (pe_call GC hr1 (by rfl) D.gc D.c.kp bC .nil pass0 (pa_cons (pv 0) (pa_cons pe_int pa_nil))) pa_nil))))) pss_nil)
      <| pss_cons (ps_if (pt_cmpR op_eq (pv 3) pe_int (nomark _)) (pss_cons (ps_set (i := 5) scTurn.nd rfl (.inr rfl) (pe_call GU hr1 (by rfl) D.gu D.u.kp bU .nil pass0 (pa_cons (pv 1) (pa_cons (pe_call GC hr1 (by rfl) D.gc D.c.kp bC .nil pass0 (pa_cons (pv 0) (pa_cons (pv 1) pa_nil))) pa_nil))))
        <| pss_one (ps_ret (pe_callTy call_tuple_of (by rfl) R.tuple (by decide +kernel) (pa_cons (pe_lc (own := [("_law_k", 6)]) (g := gName 6) (tt := tYes) rfl scTurn.nd (pi_range1 (by rfl) R.range (pa_cons (pe_op op_add (pv 1) pe_int) pa_nil)) (blkOk_by (N := nTurn) (sc := defScope sTurn) (by decide +kernel)) (fun _ _ _ _ _ => pg_name (i := 6) scTurn.nd rfl (Or.inl rfl)) (fun _ _ _ _ _ => pts_nil)
          (fun _ _ _ _ _ => pe_op op_add (pe_ix (r := rIxT K) ix_tup (pv 4) (pv 6) (fun _ _ => rfl)) (pe_ix (r := rIxT K) ix_tup (pv 5) (pv 6) (fun _ _ => rfl)))) pa_nil)))) pss_nil)
      <| pss_one (ps_ret (pe_ifExp (pt_cmpR op_eq (pv 3) pe_int (nomark _)) (pv 4) (pe_call GL hr (by rfl) D.gl D.l.kp bL .nil pass0 (pa_cons (pv 0) (pa_cons (pv 1) pa_nil))))), ?_⟩
    refine ⟨_, rfl, p, _, rfl, hp, by decide, by decide, fun r1 H1 r10 r11 hp1 b1 => ⟨_, rfl, _, rfl, m, a, rfl, m3, fun v g H2 fb s2 dv => ⟨(show 2 ≤ 1000 by decide), fun T3 H3 n3 => ?_⟩⟩⟩
    refine ⟨T3, _, rfl, SqT.of n3.2.1, rfl, _, _, rfl, _, _, rfl, rfl, ?_⟩
    have hp3 := (hp1.same s2).same n3.2.2
    have b3 : But p H H3 := b1.trans ((but_same s2).trans (but_same n3.2.2))
    have dv3 := Pg.dp_sameD n3.2.2 dv
    refine ⟨_, rfl, _, _, rfl, rfl, _, rfl, ?_⟩
    refine ite2 (fun hc => ?_) (fun hc => ?_)
    · refine ⟨_, rfl, _, rfl, _, rfl, p, _, rfl, hp3, by decide, by decide, fun r5 H5 r50 r51 hp5 b5 => ?_⟩
      refine ⟨_, _, rfl, rfl, v, 10, -1 - r5, m, g, rfl, dp_nl (b5.nl hp3) _ (Pg.nol_f g) dv3, fb.mono (by decide), m3, by omega, by omega, by decide, fun v2 g2 H6 fb2 s6 dv2 => ?_⟩
      exact k v2 g2 H6 (fb2.mono (by decide)) dv2 (hp5.same s6) (b3.trans (b5.trans (but_same s6)))
    · refine ⟨_, rfl, rfl, _, rfl, ?_⟩
      refine ite2 (fun hc2 => ?_) (fun hc2 => ?_)
      · refine ⟨(show 1 ≤ 1000 by decide), fun t H4 n4 => ?_⟩
        have hp4 := hp3.same n4.2.2
        refine ⟨_, rfl, t, _, _, rfl, rfl, SqT.of n4.2.1, List.cons_ne_nil _ _, by omega, by omega, (show 1 ≤ 1000 by decide), fun q H5 s5 hq => ?_⟩
        have hp5 := hp4.same s5
        refine ⟨_, rfl, p, _, rfl, hp5, by decide, by decide, fun r6 H6 r60 r61 hp6 b6 => ⟨(show 1 ≤ 1000 by decide), fun u H7 n7 => ?_⟩⟩
        have e1 : (List.replicate (m : Int).toNat [V.int 0]).flatten = (List.replicate m (0 : Int)).map V.int := rep_flat m
        rw [e1] at hq
        have hq7 := Same.seqT n7.2.2 (seqT_nl (b6.nl hp5) hq)
        have lm : ((List.replicate m (0 : Int)).map V.int).length = m := by rw [List.length_map, List.length_replicate]
        have b7 : But p H H7 := b3.trans ((but_same n4.2.2).trans ((but_same s5).trans (b6.trans (but_same n7.2.2))))
        refine ⟨q, u, _, _, rfl, rfl, hq7, SqT.of n7.2.1, by rw [lm]; exact Nat.le_of_lt (small1000 (show m + 1 ≤ 1000 by omega)), fun e => ?_, fun _ e => absurd e (List.cons_ne_nil _ _), fun _ _ r nr => ?_⟩
        · have z := congrArg List.length e
          rw [lm] at z
          exact absurd z (by simp only [List.length_nil]; omega)
        · refine k _ (List.replicate m 0 ++ [r6]) _ ⟨?_, fun i hi => ?_⟩ (dp_ints (SqT.of ?_)) ((hp6.same n7.2.2).same (same_new nr)) (b7.trans (but_same (same_new nr)))
          · rw [List.length_append, List.length_replicate]
            rfl
          · rcases List.mem_append.mp hi with hi | hi
            · rw [(List.mem_replicate.mp hi).2]
              omega
            · rw [List.mem_singleton.mp hi]
              omega
          · rw [upd_same, List.map_append]
            rfl
      · refine ⟨_, rfl, rfl, _, rfl, ?_⟩
        refine ite2 (fun hc3 => ?_) (fun hc3 => ?_)
        · refine ⟨_, rfl, _, rfl, _, rfl, p, _, rfl, hp3, by omega, by omega, fun r4 H4 r40 r41 hp4 b4 => ⟨m, r4, rfl, m3, fun v2 g2 H5 fb2 s5 dv2 => ?_⟩⟩
          have hp5 := hp4.same s5
          have dv5 := Pg.dp_sameD s5 (dp_nl (b4.nl hp3) _ (Pg.nol_f g) dv3)
          obtain ⟨q, rfl, hq⟩ := fd_ints dv5
          obtain ⟨q2, rfl, hq2⟩ := fd_ints dv2
          refine ⟨_, rfl, _, _, rfl, rfl, _, rfl, by omega, by omega, lcR (walk_range (lo := 0) (n := ((m : Int) + 1).toNat)) (n1 := by omega) (fun _ _ => trivial) (fun i y _ => ∃ z : Int, y = .int z ∧ -100 ≤ z ∧ z ≤ 100) (fun _ _ _ _ _ e => e) ?_ ?_⟩
          · rintro D acc i x Ha Hb K2 hi s nD hD ⟨rfl, rfl⟩ kk
            have hi2 : i < m + 1 := by omega
            refine ⟨rfl, _, rfl, _, rfl, q, _, (i : Int), _, rfl, by simp, Same.seqT s hq, fb_at (K := K) (H := H5) fb hi2, ?_⟩
            refine ⟨_, rfl, _, rfl, q2, _, (i : Int), _, rfl, by simp, Same.seqT s hq2, fb_at (K := K) (H := H5) fb2 hi2, _, _, rfl, rfl, kk _ _ (Same.refl _) ⟨_, rfl, ?_⟩⟩
            have h1 := fb.getD hi2
            have h2 := fb2.getD hi2
            omega
          · rintro D Hb ys nw hlen he
            obtain ⟨g3, rfl, lg, hg⟩ := ints_of hlen he
            refine ⟨D, _, rfl, .inl ⟨SqL.of nw.2.1, fun q1 nq1 => ?_⟩⟩
            have s4 := nw.2.2.trans (same_new (o := .tup (g3.map V.int)) nq1)
            exact k _ g3 _ ⟨by omega, hg⟩ (dp_ints (SqT.of upd_same)) (hp5.same s4) (b3.trans (b4.trans (but_same (s5.trans s4))))
        · refine ⟨_, rfl, rfl, _, rfl, ?_⟩
          refine ite2 (fun hc4 => ?_) (fun hc4 => ?_)
          · exact ⟨_, rfl, k v g H3 (fb.mono (by decide)) dv3 hp3 b3⟩
          · exact ⟨_, rfl, _, rfl, p, m, rfl, m3, hp3, fun v g H4 fb dv hp4 b4 => k v g H4 fb dv hp4 (b3.trans b4)⟩
end
end K5
set_option Elab.async false
set_option linter.all false
set_option maxRecDepth 100000
set_option maxHeartbeats 8000000
namespace K5
open PySem PySem.Spec PyProof.Rows L2 Gd Rl
open Pg (rSlTR sl_tupR fd_ints nolD nolAll nameS nameB fD OkF cut_take Arm sayD armD namesD saysD armsD OkN OkS OkA OkP ArmOk dp_ints list_is dp_snoc nol_map nol_f nol_fs nol_arm strs_at)
abbrev sArm : Stmt := top 76
theorem dp_set {K : PySem.W.Frag} {H : Hp} : ∀ {X : List V} {ds : List PyData} {v : V} {d : PyData} (j : Nat), DpAll K H X ds → Dp K H v d → DpAll K H (X.set j v) (ds.set j d)
  | _, _, _, _, _, .nil, _ => .nil
  | _, _, _, _, 0, .cons _ b, h => .cons h b
  | _, _, _, _, j + 1, .cons a b, h => .cons a (dp_set j b h)
theorem fm_of {m : Nat} {g : List Int} (h : FB 100 m g) : FmOk m g := ⟨h.1, fun i hi => by have := h.2 i hi; omega⟩
/-- where the defs that draw small programs stand -/
structure Dp2 (K : PySem.W.Frag) (mg : Str → Option Value) (fA fK fT : Addr) (dA dK dT : FuncData) : Prop where
  a : FnP K "_law_any_of" sAny fA dA
  k : FnP K "_law_ask" sAsk fK dK
  t : FnP K "_law_turn" sTurn fT dT
  ga : mg "_law_any_of" = some (.ref fA)
  gk : mg "_law_ask" = some (.ref fK)
  gt : mg "_law_turn" = some (.ref fT)
section
variable {P : Program} {w : World} {K : PySem.W.Frag} {mg : Str → Option Value} {base : Heap} {f : Addr} {fd : FuncData}
variable {fC fU fS fL fA fK fT : Addr} {dC dU dS dL dA dK dT : FuncData}
def spArm (K : PySem.W.Frag) : Sp := fun vs H Q _ => ∃ (p sp : Addr) (m : Nat) (spS : List Str), vs = [.ref p, .int m, .ref sp] ∧ 1 ≤ m ∧ m ≤ 3 ∧ Pail H p ∧ H sp = some (.lst (spS.map V.str)) ∧ sp ≠ p ∧ 0 < spS.length ∧ spS.length ≤ 3 ∧ (∀ z ∈ spS, nameS z = true) ∧
  ∀ (v : V) (a : Arm) (H' : Hp), ArmOk m a → a.src ∈ spS → a.tgt ∈ spS → Dp K H' v (armD a) → Pail H' p → But p H H' → Q v H'
abbrev nArm : List Str := ["_law_pail", "_law_size", "_law_spots_here", "_law_at", "_law_turns", "_law_k", "_law_more", "_law_asks"]
theorem scArm : FnScope nArm ["_law_pail", "_law_size", "_law_spots_here"] (defScope sArm) := ⟨rfl, rfl, rfl, by decide +kernel, rfl, by decide +kernel, by decide +kernel⟩
/-- the changes, as they stand -/
def Trn (K : PySem.W.Frag) (m : Nat) (H : Hp) (l : Addr) : Prop := ∃ (X : List V) (gs : List (List Int)), H l = some (.lst X) ∧ DpAll K H X (gs.map fD) ∧ gs.length = m ∧ ∀ g ∈ gs, FmOk m g
theorem Trn.but {K : PySem.W.Frag} {m : Nat} {H H' : Hp} {l p : Addr} (t : Trn K m H l) (b : But p H H') (hp : Pail H p) (lp : l ≠ p) : Trn K m H' l :=
  let ⟨X, gs, hX, dX, lg, hg⟩ := t
  ⟨X, gs, b l _ hX lp, dp_nlAll (b.nl hp) _ (nol_map nol_f _) dX, lg, hg⟩
theorem Trn.same {K : PySem.W.Frag} {m : Nat} {H H' : Hp} {l : Addr} (t : Trn K m H l) (s : Same H H') : Trn K m H' l :=
  let ⟨X, gs, hX, dX, lg, hg⟩ := t
  ⟨X, gs, s l _ hX, dp_nlAll (nl_same s) _ (nol_map nol_f _) dX, lg, hg⟩
theorem Trn.upd {K : PySem.W.Frag} {m : Nat} {H : Hp} {l A : Addr} {Y Z : List V} (t : Trn K m H l) (hA : H A = some (.lst Y)) (n : l ≠ A) : Trn K m (upd H A (.lst Z)) l :=
  let ⟨X, gs, hX, dX, lg, hg⟩ := t
  ⟨X, gs, by rw [upd_ne n]; exact hX, dp_nlAll (nl_upd hA) _ (nol_map nol_f _) dX, lg, hg⟩
theorem trn_put {K : PySem.W.Frag} {m : Nat} {H : Hp} {l : Addr} {X : List V} {gs : List (List Int)} {v : V} {g : List Int} (j : Nat) (hX : H l = some (.lst X)) (dX : DpAll K H X (gs.map fD)) (lg : gs.length = m) (hg : ∀ g ∈ gs, FmOk m g) (dv : Dp K H v (fD g)) (fg : FmOk m g) : Trn K m (L2.upd H l (.lst (X.set j v))) l := by
  refine ⟨_, gs.set j g, upd_same, ?_, by rw [List.length_set]; exact lg, fun g2 h2 => ?_⟩
  · rw [List.map_set]
    exact dp_set j (dp_nlAll (nl_upd hX) _ (nol_map nol_f _) dX) (dp_nl (nl_upd hX) _ (nol_f _) dv)
  · rcases List.mem_or_eq_of_mem_set h2 with h2 | rfl
    · exact hg g2 h2
    · exact fg
theorem ix_nat {n j : Nat} (h : j < n) : ixN n (j : Int) = some j := by
  unfold ixN
  rw [if_pos (by omega), if_pos (by omega), Int.toNat_natCast]
theorem ints3 {a b c : Int} {i : Nat} {x : V} (e : [V.int a, V.int b, V.int c][i]? = some x) : ∃ z, x = V.int z := by
  match i, e with
  | 0, e => exact ⟨_, (Option.some.inj e).symm⟩
  | 1, e => exact ⟨_, (Option.some.inj e).symm⟩
  | 2, e => exact ⟨_, (Option.some.inj e).symm⟩
  | i + 3, e => simp at e
theorem ok_arm (F : FnP K "_law_arm" sArm f fd) (T : Bl mg) (R : RangeB mg) (D : Ds K mg fC fU fS fL dC dU dS dL) (E2 : Dp2 K mg fA fK fT dA dK dT) : FnOk P w K mg base CX0 4 f fd ["_law_pail", "_law_size", "_law_spots_here"] (spArm K) := by
  have GC : FnOk P w K mg base CX0 1 fC dC ["_law_pail", "_law_many"] spCast := ok_cast D.c T
  have bC : Binds K dC ["_law_pail", "_law_many"] [] := D.c.bindsN fun _ _ _ _ _ _ us hl => match us, hl with | [_, _], _ => rfl
  have GA : FnOk P w K mg base CX0 2 fA dA ["_law_pail", "_law_some"] (spAny K) := ok_any E2.a T D.c D.gc
  have bA : Binds K dA ["_law_pail", "_law_some"] [] := E2.a.bindsN fun _ _ _ _ _ _ us hl => match us, hl with | [_, _], _ => rfl
  have GU : FnOk P w K mg base CX0 1 fU dU ["_law_size", "_law_at"] (spUnit K) := ok_unit D.u T R
  have bU : Binds K dU ["_law_size", "_law_at"] [] := D.u.bindsN fun _ _ _ _ _ _ us hl => match us, hl with | [_, _], _ => rfl
  have GK : FnOk P w K mg base CX0 3 fK dK ["_law_pail", "_law_size", "_law_at"] (spAsk K) := ok_ask E2.k T R D
  have bK : Binds K dK ["_law_pail", "_law_size", "_law_at"] [] := E2.k.bindsN fun _ _ _ _ _ _ us hl => match us, hl with | [_, _, _], _ => rfl
  have GT : FnOk P w K mg base CX0 3 fT dT ["_law_pail", "_law_size", "_law_at"] (spAsk K) := ok_turn E2.t T R D
  have bT : Binds K dT ["_law_pail", "_law_size", "_law_at"] [] := E2.t.bindsN fun _ _ _ _ _ _ us hl => match us, hl with | [_, _, _], _ => rfl
  refine F.ok scArm (fun vs H Q E h => ?_) (fun cdv A outer s H vs Q E hr h => ?_)
  · obtain ⟨p, sp, m, spS, rfl, _⟩ := h
    rfl
  · obtain ⟨p, sp, m, spS, rfl, m1, m3, hp, esp, snp, sp0, sp3, spn, k⟩ := h
    have hr1 := hr.mono (show 1 ≤ 3 by decide)
    have hr2 := hr.mono (show 2 ≤ 3 by decide)
    refine ⟨_, PSs.nox <| pss_cons (ps_set (i := 3) scArm.nd rfl (.inl rfl) (pe_call GC hr1 (by rfl) D.gc D.c.kp bC .nil pass0 (pa_cons (pv 0) (pa_cons (pv 1) pa_nil))))
      <| pss_cons (ps_setLc (i := 4) (own := [("_law_k", 5)]) (g := gName 5) (tt := tYes) rfl scArm.nd rfl rfl (sw_true rfl rfl rfl (by decide +kernel)) (pi_range1 (by rfl) R.range (pa_cons (pv 1) pa_nil)) (blkOk_by (N := nArm) (sc := defScope sArm) (by decide +kernel)) (fun _ _ _ _ _ => pg_name (i := 5) scArm.nd rfl (Or.inl rfl)) (fun _ _ _ _ _ => pts_nil)
          (fun _ _ _ _ _ => pe_call GU hr1 (by rfl) D.gu D.u.kp bU .nil pass0 (pa_cons (pv 1) (pa_cons (pv 5) pa_nil))))
      <| pss_cons (ps_asg (pe_call GT hr (by rfl) E2.gt E2.t.kp bT .nil pass0 (pa_cons (pv 0) (pa_cons (pv 1) (pa_cons (pv 3) pa_nil)))) (pg_sub (pv 4) (pv 3) set_list))
      <| pss_cons (ps_if (pt_cmpR op_eq (pe_call GC hr1 (by rfl) D.gc D.c.kp bC .nil pass0 (pa_cons (pv 0) (pa_cons pe_int pa_nil))) pe_int (nomark _)) (pss_cons (ps_set (i := 6) scArm.nd rfl (.inl rfl) (pe_call GC hr1 (by rfl) D.gc D.c.kp bC .nil pass0 (pa_cons (pv 0) (pa_cons (pv 1) pa_nil))))
        <| pss_one (ps_asg (pe_call GT hr (by rfl) E2.gt E2.t.kp bT .nil pass0 (pa_cons (pv 0) (pa_cons (pv 1) (pa_cons (pv 6) pa_nil)))) (pg_sub (pv 4) (pv 6) set_list))) pss_nil)
      <| pss_cons (ps_set (i := 7) scArm.nd rfl (.inl rfl) (pe_lstR pa_nil))
      <| pss_cons (ps_for PassesOwn.never rfl (pi_range1 (by rfl) R.range (pa_cons (pe_call GC hr1 (by rfl) D.gc D.c.kp bC .nil pass0 (pa_cons (pv 0) (pa_cons pe_int pa_nil))) pa_nil)) (pg_name (i := 5) scArm.nd rfl (.inl rfl))
          (pss_one (ps_expr (pe_bm PySem.F.plainAttrs_list PySem.F.slot_list_append PySem.F.type_list_append mt_append (pv 7) (pa_cons (pe_call GK hr (by rfl) E2.gk E2.k.kp bK .nil pass0 (pa_cons (pv 0) (pa_cons (pv 1) (pa_cons (pe_call GA hr2 (by rfl) E2.ga E2.a.kp bA .nil pass0 (pa_cons (pv 0) (pa_cons (pe_lstR (pa_cons (pv 3) (pa_cons (pv 3) (pa_cons (pe_call GC hr1 (by rfl) D.gc D.c.kp bC .nil pass0 (pa_cons (pv 0) (pa_cons (pv 1) pa_nil))) pa_nil)))) pa_nil))) pa_nil)))) pa_nil)))))
      <| pss_one (ps_ret (pe_tupR (pa_cons (pe_call GA hr2 (by rfl) E2.ga E2.a.kp bA .nil pass0 (pa_cons (pv 0) (pa_cons (pv 2) pa_nil))) (pa_cons (pe_call GA hr2 (by rfl) E2.ga E2.a.kp bA .nil pass0 (pa_cons (pv 0) (pa_cons (pv 2) pa_nil))) (pa_cons (pe_callTy call_tuple_of (by rfl) R.tuple (by decide +kernel) (pa_cons (pv 7) pa_nil)) (pa_cons (pe_callTy call_tuple_of (by rfl) R.tuple (by decide +kernel) (pa_cons (pv 4) pa_nil)) pa_nil)))))), ?_⟩
    refine ⟨_, rfl, _, rfl, p, _, rfl, hp, by omega, by omega, fun r1 H1 r10 r11 hp1 b1 => ?_⟩
    refine ⟨_, rfl, _, rfl, by omega, by omega, ?_⟩
    intro l nl
    refine lc_range (lo := 0) (n := (m : Int).toNat) (fun i H' => ∃ (X : List V) (gs : List (List Int)), H' l = some (.lst X) ∧ DpAll K H' X (gs.map fD) ∧ gs.length = i ∧ (∀ g ∈ gs, FmOk m g) ∧ Same H1 H') ⟨[], [], upd_same, .nil, rfl, (fun _ h => by cases h), same_new nl⟩ ?_ ?_
    · rintro i H2 hi ⟨X, gs, hX, dX, lg, hg, s2⟩
      refine ⟨rfl, _, rfl, _, rfl, m, _, rfl, m3, fun v g H3 fb s3 dv => ?_⟩
      have ln := Pg.dp_len' dX
      have hX3 := s3 _ _ hX
      refine ⟨X, hX3, small1000 (by rw [ln, List.length_map]; omega), X ++ [v], gs ++ [g], upd_same, ?_, by rw [List.length_append, lg]; rfl, fun g2 h2 => ?_, fun b o e => ?_⟩
      · rw [List.map_append]
        exact dp_snoc (dp_nl (nl_upd hX3) _ (nol_f _) dv) (dp_nlAll ((nl_same s3).trans (nl_upd hX3)) _ (nol_map nol_f _) dX)
      · rcases List.mem_append.mp h2 with h2 | h2
        · exact hg g2 h2
        · rw [List.mem_singleton.mp h2]
          exact fm_of (fb.mono (by decide))
      · rw [upd_ne (ne_of_none e nl)]
        exact s3 _ _ (s2 _ _ e)
    rintro H2 ⟨X, gs, hX, dX, lg, hg, s2⟩
    have hp2 := hp1.same s2
    have lp : l ≠ p := (hp1.ne nl).symm
    have b2 : But p H H2 := b1.trans (but_same s2)
    have lX : X.length = m := by
      rw [Pg.dp_len' dX, List.length_map, lg]
      omega
    refine ⟨_, rfl, _, rfl, _, rfl, p, m, r1, rfl, m1, m3, hp2, fun v g H3 fb dv hp3 b3 => ?_⟩
    obtain ⟨j1, rfl⟩ := Int.eq_ofNat_of_zero_le r10
    have hX3 := b3 l _ hX lp
    have dX3 := dp_nlAll (b3.nl hp2) _ (nol_map nol_f _) dX
    refine ⟨_, rfl, _, rfl, l, X, j1, j1, rfl, rfl, hX3, ix_nat (by omega), ?_⟩
    have t4 : Trn K m (upd H3 l (.lst (X.set j1 v))) l := trn_put j1 hX3 dX3 (by omega) hg dv (fm_of fb)
    have hp4 : Pail (upd H3 l (.lst (X.set j1 v))) p := hp3.upd lp.symm
    have nlH : H l = none := none_but b1 hp1 nl
    have b4 : But p H (upd H3 l (.lst (X.set j1 v))) := fun b o e nb => by
      rw [upd_ne (ne_of_none e nlH)]
      exact b3 b o (b2 b o e nb) nb
    generalize upd H3 l (.lst (X.set j1 v)) = H4 at t4 hp4 b4
    clear hX3 dX3 hX dX lg hg lX
    refine ⟨_, rfl, p, _, rfl, hp4, by decide, by decide, fun r5 H5 r50 r51 hp5 b5 => ?_⟩
    refine ⟨rfl, _, rfl, ?_⟩
    refine ite2 (fun hc => ?_) (fun hc => ?_)
    · refine ⟨_, rfl, _, rfl, p, _, rfl, hp5, by omega, by omega, fun r6 H6 r60 r61 hp6 b6 => ?_⟩
      obtain ⟨j6, rfl⟩ := Int.eq_ofNat_of_zero_le r60
      refine ⟨_, rfl, _, rfl, _, rfl, p, m, _, rfl, m1, m3, hp6, fun v7 g7 H7 fb7 dv7 hp7 b7 => ?_⟩
      have b47 := b5.trans (b6.trans b7)
      obtain ⟨X7, gs7, hX7, dX7, lg7, hg7⟩ := t4.but b47 hp4 lp
      have lX7 : X7.length = m := by
        rw [Pg.dp_len' dX7, List.length_map, lg7]
      refine ⟨_, rfl, _, rfl, l, X7, j6, j6, rfl, rfl, hX7, ix_nat (by omega), ?_⟩
      have tZ : Trn K m (upd H7 l (.lst (X7.set j6 v7))) l := trn_put j6 hX7 dX7 lg7 hg7 dv7 (fm_of fb7)
      have hpZ : Pail (upd H7 l (.lst (X7.set j6 v7))) p := hp7.upd lp.symm
      have bZ : But p H (upd H7 l (.lst (X7.set j6 v7))) := fun b o e nb => by
        rw [upd_ne (ne_of_none e nlH)]
        exact b47 b o (b4 b o e nb) nb
      generalize upd H7 l (.lst (X7.set j6 v7)) = HZ at tZ hpZ bZ
      clear hX7 dX7 lg7 hg7 lX7
      -- the tests
      have asub : ∀ q : Addr, HZ q = none → q ≠ l := fun q nq e => by
        obtain ⟨X, gs, hX, _⟩ := tZ
        rw [e, hX] at nq
        cases nq
      refine ⟨(show 0 ≤ 1000 by decide), fun A H9 n9 => ?_⟩
      have hp9 := hpZ.same n9.2.2
      have Ap : A ≠ p := (hpZ.ne n9.1).symm
      have Al : A ≠ l := asub A n9.1
      refine ⟨_, rfl, p, _, rfl, hp9, by decide, by decide, fun r5 H10 r50 r51 hp10 b10 => ⟨r5, rfl, by omega, by omega, ?_⟩⟩
      have bZ10 : But p HZ H10 := (but_same n9.2.2).trans b10
      refine for_range (lo := 0) (n := r5.toNat) (fun i σ H' => ∃ (x5 : Option V) (Y : List V) (fs : List (List Int)), σ = [some (.ref p), some (.int m), some (.ref sp), some (.int j1), some (.ref l), x5, some (.int j6), some (.ref A)] ∧ H' A = some (.lst Y) ∧ DpAll K H' Y (fs.map fD) ∧ fs.length = i ∧ (∀ g ∈ fs, FmOk m g) ∧ Trn K m H' l ∧ Pail H' p ∧ But p HZ H') ⟨_, [], [], rfl, b10 A _ n9.2.1 Ap, .nil, rfl, (fun _ h => by cases h), (tZ.same n9.2.2).but b10 hp9 lp, hp10, bZ10⟩ ?_ ?_
      · rintro i σ H11 hi ⟨x5, Y, fs, rfl, hA, dA, lf, hf, t11, hp11, b11⟩
        refine ⟨_, rfl, .inl ⟨rfl, _, SqL.of hA⟩, _, rfl, _, rfl, _, rfl, _, rfl, _, rfl, _, rfl, _, rfl, p, _, rfl, hp11, by omega, by omega, fun r6 H12 r60 r61 hp12 b12 => ⟨(show 3 ≤ 1000 by decide), fun L H13 n13 => ⟨p, L, _, rfl, hp12.same n13.2.2, n13.2.1, (hp12.ne n13.1).symm, (show 0 < 3 by decide), (show 3 ≤ 1000 by decide), fun i2 x2 H14 ex hp14 b14 => ?_⟩⟩⟩
        obtain ⟨z, rfl⟩ := ints3 ex
        refine ⟨p, m, z, rfl, m1, m3, hp14, fun v2 g2 H15 fb2 dv2 hp15 b15 => ?_⟩
        have b1115 : But p H11 H15 := b12.trans ((but_same n13.2.2).trans (b14.trans b15))
        have hA15 := b1115 A _ hA Ap
        have ln := Pg.dp_len' dA
        refine ⟨A, _, _, rfl, rfl, hA15, small1000 (by rw [ln, List.length_map]; omega), ?_⟩
        refine ⟨_, _, fs ++ [g2], rfl, upd_same, ?_, by rw [List.length_append, lf]; rfl, fun g3 h3 => ?_, (t11.but b1115 hp11 lp).upd hA15 Al.symm, hp15.upd Ap.symm, fun b o e nb => ?_⟩
        · rw [List.map_append]
          exact dp_snoc (dp_nl (nl_upd hA15) _ (nol_f _) dv2) (dp_nlAll ((b1115.nl hp11).trans (nl_upd hA15)) _ (nol_map nol_f _) dA)
        · rcases List.mem_append.mp h3 with h3 | h3
          · exact hf g3 h3
          · rw [List.mem_singleton.mp h3]
            exact fm_of fb2
        · rw [upd_ne (ne_of_none e n9.1)]
          exact b1115 b o (b11 b o e nb) nb
      · rintro σ H11 ⟨x5, Y, fs, rfl, hA, dA, lf, hf, t11, hp11, b11⟩
        have bH : But p H H11 := bZ.trans b11
        have spp2 : 0 < (spS.map V.str).length := by rw [List.length_map]; exact sp0
        have spl2 : (spS.map V.str).length ≤ 1000 := by rw [List.length_map]; omega
        refine ⟨_, rfl, _, rfl, p, sp, _, rfl, hp11, bH sp _ esp snp, snp, spp2, spl2, fun i2 x2 H12 ex2 hp12 b12 => ?_⟩
        obtain ⟨c2, ec2, rfl⟩ := strs_at ex2
        have hc2 := List.mem_of_getElem? ec2
        refine ⟨_, rfl, _, rfl, p, sp, _, rfl, hp12, b12 sp _ (bH sp _ esp snp) snp, snp, spp2, spl2, fun i3 x3 H13 ex3 hp13 b13 => ?_⟩
        obtain ⟨c3, ec3, rfl⟩ := strs_at ex3
        have hc3 := List.mem_of_getElem? ec3
        have b1113 := b12.trans b13
        have hA13 := b1113 A _ hA Ap
        have dA13 := dp_nlAll (b1113.nl hp11) _ (nol_map nol_f _) dA
        obtain ⟨X, gs, hX, dX, lg, hg⟩ := t11.but b1113 hp11 lp
        refine ⟨_, rfl, A, _, rfl, .inl ⟨SqL.of hA13, fun u nu => ?_⟩⟩
        have s14 := same_new (o := .tup Y) nu
        have hu : Dp K (upd H13 u (.tup Y)) (.ref u) (.tuple (fs.map fD)) := .tup (SqT.of upd_same) (Pg.dp_sameAllD s14 dA13)
        have hX14 := s14 _ _ hX
        have dX14 := Pg.dp_sameAllD s14 dX
        generalize upd H13 u (.tup Y) = H14 at s14 hu hX14 dX14
        refine ⟨_, rfl, l, _, rfl, .inl ⟨SqL.of hX14, fun u2 nu2 => ?_⟩⟩
        have s15 := same_new (o := .tup X) nu2
        have hu2 : Dp K (upd H14 u2 (.tup X)) (.ref u2) (.tuple (gs.map fD)) := .tup (SqT.of upd_same) (Pg.dp_sameAllD s15 dX14)
        generalize upd H14 u2 (.tup X) = H15 at s15 hu2
        refine ⟨(show 4 ≤ 1000 by decide), fun t H16 n16 => ?_⟩
        have s1316 := s14.trans (s15.trans n16.2.2)
        refine k (.ref t) ⟨c2, c3, fs, gs⟩ H16 ⟨spn c2 hc2, spn c3 hc3, forms_of hf, by show fs.length ≤ 3; omega, forms_of hg, lg⟩ hc2 hc3 (.tup (SqT.of n16.2.1) (.cons (.str c2) (.cons (.str c3) (.cons (Pg.dp_sameD (s15.trans n16.2.2) hu) (.cons (Pg.dp_sameD n16.2.2 hu2) .nil))))) (hp13.same s1316) (bH.trans (b1113.trans (but_same s1316)))
    · have tZ := t4.but b5 hp4 lp
      have hpZ := hp5
      have bZ : But p H H5 := b4.trans b5
      generalize H5 = HZ at tZ hpZ bZ
      -- the tests
      have asub : ∀ q : Addr, HZ q = none → q ≠ l := fun q nq e => by
        obtain ⟨X, gs, hX, _⟩ := tZ
        rw [e, hX] at nq
        cases nq
      refine ⟨(show 0 ≤ 1000 by decide), fun A H9 n9 => ?_⟩
      have hp9 := hpZ.same n9.2.2
      have Ap : A ≠ p := (hpZ.ne n9.1).symm
      have Al : A ≠ l := asub A n9.1
      refine ⟨_, rfl, p, _, rfl, hp9, by decide, by decide, fun r5 H10 r50 r51 hp10 b10 => ⟨r5, rfl, by omega, by omega, ?_⟩⟩
      have bZ10 : But p HZ H10 := (but_same n9.2.2).trans b10
      refine for_range (lo := 0) (n := r5.toNat) (fun i σ H' => ∃ (x5 : Option V) (Y : List V) (fs : List (List Int)), σ = [some (.ref p), some (.int m), some (.ref sp), some (.int j1), some (.ref l), x5, none, some (.ref A)] ∧ H' A = some (.lst Y) ∧ DpAll K H' Y (fs.map fD) ∧ fs.length = i ∧ (∀ g ∈ fs, FmOk m g) ∧ Trn K m H' l ∧ Pail H' p ∧ But p HZ H') ⟨_, [], [], rfl, b10 A _ n9.2.1 Ap, .nil, rfl, (fun _ h => by cases h), (tZ.same n9.2.2).but b10 hp9 lp, hp10, bZ10⟩ ?_ ?_
      · rintro i σ H11 hi ⟨x5, Y, fs, rfl, hA, dA, lf, hf, t11, hp11, b11⟩
        refine ⟨_, rfl, .inl ⟨rfl, _, SqL.of hA⟩, _, rfl, _, rfl, _, rfl, _, rfl, _, rfl, _, rfl, _, rfl, p, _, rfl, hp11, by omega, by omega, fun r6 H12 r60 r61 hp12 b12 => ⟨(show 3 ≤ 1000 by decide), fun L H13 n13 => ⟨p, L, _, rfl, hp12.same n13.2.2, n13.2.1, (hp12.ne n13.1).symm, (show 0 < 3 by decide), (show 3 ≤ 1000 by decide), fun i2 x2 H14 ex hp14 b14 => ?_⟩⟩⟩
        obtain ⟨z, rfl⟩ := ints3 ex
        refine ⟨p, m, z, rfl, m1, m3, hp14, fun v2 g2 H15 fb2 dv2 hp15 b15 => ?_⟩
        have b1115 : But p H11 H15 := b12.trans ((but_same n13.2.2).trans (b14.trans b15))
        have hA15 := b1115 A _ hA Ap
        have ln := Pg.dp_len' dA
        refine ⟨A, _, _, rfl, rfl, hA15, small1000 (by rw [ln, List.length_map]; omega), ?_⟩
        refine ⟨_, _, fs ++ [g2], rfl, upd_same, ?_, by rw [List.length_append, lf]; rfl, fun g3 h3 => ?_, (t11.but b1115 hp11 lp).upd hA15 Al.symm, hp15.upd Ap.symm, fun b o e nb => ?_⟩
        · rw [List.map_append]
          exact dp_snoc (dp_nl (nl_upd hA15) _ (nol_f _) dv2) (dp_nlAll ((b1115.nl hp11).trans (nl_upd hA15)) _ (nol_map nol_f _) dA)
        · rcases List.mem_append.mp h3 with h3 | h3
          · exact hf g3 h3
          · rw [List.mem_singleton.mp h3]
            exact fm_of fb2
        · rw [upd_ne (ne_of_none e n9.1)]
          exact b1115 b o (b11 b o e nb) nb
      · rintro σ H11 ⟨x5, Y, fs, rfl, hA, dA, lf, hf, t11, hp11, b11⟩
        have bH : But p H H11 := bZ.trans b11
        have spp2 : 0 < (spS.map V.str).length := by rw [List.length_map]; exact sp0
        have spl2 : (spS.map V.str).length ≤ 1000 := by rw [List.length_map]; omega
        refine ⟨_, rfl, _, rfl, p, sp, _, rfl, hp11, bH sp _ esp snp, snp, spp2, spl2, fun i2 x2 H12 ex2 hp12 b12 => ?_⟩
        obtain ⟨c2, ec2, rfl⟩ := strs_at ex2
        have hc2 := List.mem_of_getElem? ec2
        refine ⟨_, rfl, _, rfl, p, sp, _, rfl, hp12, b12 sp _ (bH sp _ esp snp) snp, snp, spp2, spl2, fun i3 x3 H13 ex3 hp13 b13 => ?_⟩
        obtain ⟨c3, ec3, rfl⟩ := strs_at ex3
        have hc3 := List.mem_of_getElem? ec3
        have b1113 := b12.trans b13
        have hA13 := b1113 A _ hA Ap
        have dA13 := dp_nlAll (b1113.nl hp11) _ (nol_map nol_f _) dA
        obtain ⟨X, gs, hX, dX, lg, hg⟩ := t11.but b1113 hp11 lp
        refine ⟨_, rfl, A, _, rfl, .inl ⟨SqL.of hA13, fun u nu => ?_⟩⟩
        have s14 := same_new (o := .tup Y) nu
        have hu : Dp K (upd H13 u (.tup Y)) (.ref u) (.tuple (fs.map fD)) := .tup (SqT.of upd_same) (Pg.dp_sameAllD s14 dA13)
        have hX14 := s14 _ _ hX
        have dX14 := Pg.dp_sameAllD s14 dX
        generalize upd H13 u (.tup Y) = H14 at s14 hu hX14 dX14
        refine ⟨_, rfl, l, _, rfl, .inl ⟨SqL.of hX14, fun u2 nu2 => ?_⟩⟩
        have s15 := same_new (o := .tup X) nu2
        have hu2 : Dp K (upd H14 u2 (.tup X)) (.ref u2) (.tuple (gs.map fD)) := .tup (SqT.of upd_same) (Pg.dp_sameAllD s15 dX14)
        generalize upd H14 u2 (.tup X) = H15 at s15 hu2
        refine ⟨(show 4 ≤ 1000 by decide), fun t H16 n16 => ?_⟩
        have s1316 := s14.trans (s15.trans n16.2.2)
        refine k (.ref t) ⟨c2, c3, fs, gs⟩ H16 ⟨spn c2 hc2, spn c3 hc3, forms_of hf, by show fs.length ≤ 3; omega, forms_of hg, lg⟩ hc2 hc3 (.tup (SqT.of n16.2.1) (.cons (.str c2) (.cons (.str c3) (.cons (Pg.dp_sameD (s15.trans n16.2.2) hu) (.cons (Pg.dp_sameD n16.2.2 hu2) .nil))))) (hp13.same s1316) (bH.trans (b1113.trans (but_same s1316)))
end
end K5
set_option Elab.async false
set_option linter.all false
set_option maxRecDepth 100000
set_option maxHeartbeats 8000000
namespace K5
open PySem PySem.Spec PyProof.Rows L2 Gd Rl
open Pg (rSlTR sl_tupR fd_ints nolD nolAll nameS nameB fD OkF cut_take Arm sayD armD namesD saysD armsD OkN OkS OkA OkP ArmOk dp_ints list_is dp_snoc nol_map nol_f nol_fs nol_arm nol_say strs_at)
abbrev sSmall : Stmt := top 77
theorem ints4 {i : Nat} {x : V} (e : [V.int 0, V.int 0, V.int 1, V.int 2][i]? = some x) : ∃ z : Nat, x = V.int z ∧ z ≤ 2 := by
  match i, e with
  | 0, e => exact ⟨0, (Option.some.inj e).symm, by decide⟩
  | 1, e => exact ⟨0, (Option.some.inj e).symm, by decide⟩
  | 2, e => exact ⟨1, (Option.some.inj e).symm, by decide⟩
  | 3, e => exact ⟨2, (Option.some.inj e).symm, by decide⟩
  | i + 4, e => simp at e
section
variable {P : Program} {w : World} {K : PySem.W.Frag} {mg : Str → Option Value} {base : Heap} {f : Addr} {fd : FuncData}
variable {fC fU fS fL fA fK fT fG fM : Addr} {dC dU dS dL dA dK dT dG dM : FuncData}
def spSmall (K : PySem.W.Frag) : Sp := fun vs H Q _ => ∃ (p : Addr) (n : Int), vs = [.ref p, .int n] ∧ 1 ≤ n ∧ n ≤ 5 ∧ Pail H p ∧ ∀ (r : Addr) (u v z : V) (ns : List Str) (ss : List (Str × List Int)) (as : List Arm) (H' : Hp), OkP ns ss as → H r = none → H' r = some (.lst [u, v, z]) → Dp K H' u (namesD ns) → Dp K H' v (saysD ss) → Dp K H' z (armsD as) → Pail H' p → But p H H' → Q (.ref r) H'
abbrev nSmall : List Str := ["_law_pail", "_law_most", "_law_size", "_law_tags_here", "_law_spots_here", "_law_says", "_law_k", "_law_some", "_law_arms"]
theorem scSmall : FnScope nSmall ["_law_pail", "_law_most"] (defScope sSmall) := ⟨rfl, rfl, rfl, by decide +kernel, rfl, by decide +kernel, by decide +kernel⟩
theorem ok_small (F : FnP K "_law_small" sSmall f fd) (T : Bl mg) (R : RangeB mg) (D : Ds K mg fC fU fS fL dC dU dS dL) (E2 : Dp2 K mg fA fK fT dA dK dT) (FG : FnP K "_law_tags" sTags fG dG) (gG : mg "_law_tags" = some (.ref fG)) (FM : FnP K "_law_arm" sArm fM dM) (gM : mg "_law_arm" = some (.ref fM)) : FnOk P w K mg base CX0 5 f fd ["_law_pail", "_law_most"] (spSmall K) := by
  have GC : FnOk P w K mg base CX0 1 fC dC ["_law_pail", "_law_many"] spCast := ok_cast D.c T
  have bC : Binds K dC ["_law_pail", "_law_many"] [] := D.c.bindsN fun _ _ _ _ _ _ us hl => match us, hl with | [_, _], _ => rfl
  have GA : FnOk P w K mg base CX0 2 fA dA ["_law_pail", "_law_some"] (spAny K) := ok_any E2.a T D.c D.gc
  have bA : Binds K dA ["_law_pail", "_law_some"] [] := E2.a.bindsN fun _ _ _ _ _ _ us hl => match us, hl with | [_, _], _ => rfl
  have GT : FnOk P w K mg base CX0 2 fG dG ["_law_pail", "_law_many"] spTags := ok_tags FG T D.c D.gc
  have bT : Binds K dG ["_law_pail", "_law_many"] [] := FG.bindsN fun _ _ _ _ _ _ us hl => match us, hl with | [_, _], _ => rfl
  have GU : FnOk P w K mg base CX0 1 fU dU ["_law_size", "_law_at"] (spUnit K) := ok_unit D.u T R
  have bU : Binds K dU ["_law_size", "_law_at"] [] := D.u.bindsN fun _ _ _ _ _ _ us hl => match us, hl with | [_, _], _ => rfl
  have GS : FnOk P w K mg base CX0 1 fS dS ["_law_some", "_law_by"] (spShift K) := ok_shift D.s
  have bS : Binds K dS ["_law_some", "_law_by"] [] := D.s.bindsN fun _ _ _ _ _ _ us hl => match us, hl with | [_, _], _ => rfl
  have GM : FnOk P w K mg base CX0 4 fM dM ["_law_pail", "_law_size", "_law_spots_here"] (spArm K) := ok_arm FM T R D E2
  have bM : Binds K dM ["_law_pail", "_law_size", "_law_spots_here"] [] := FM.bindsN fun _ _ _ _ _ _ us hl => match us, hl with | [_, _, _], _ => rfl
  refine F.ok scSmall (fun vs H Q E h => ?_) (fun cdv A outer s H vs Q E hr h => ?_)
  · obtain ⟨p, n, rfl, _⟩ := h
    rfl
  · obtain ⟨p, n, rfl, n1, n5, hp, k⟩ := h
    have hr1 := hr.mono (show 1 ≤ 4 by decide)
    have hr2 := hr.mono (show 2 ≤ 4 by decide)
    refine ⟨_, PSs.nox <| pss_cons (ps_asg (pe_tupR (pa_cons (pe_op op_add pe_int (pe_call GC hr1 (by rfl) D.gc D.c.kp bC .nil pass0 (pa_cons (pv 0) (pa_cons pe_int pa_nil)))) (pa_cons (pe_call GT hr2 (by rfl) gG FG.kp bT .nil pass0 (pa_cons (pv 0) (pa_cons pe_int pa_nil))) pa_nil))) (pg_tup (by rfl) (pgs_cons (pg_name (i := 2) scSmall.nd rfl (.inr rfl)) (pgs_cons (pg_name (i := 3) scSmall.nd rfl (.inl rfl)) pgs_nil))))
      <| pss_cons (ps_set (i := 4) scSmall.nd rfl (.inr rfl) (pe_slice (r := rSlR K) sl_listR (pv 3) (po_some pe_int) (po_some (pe_op op_add pe_int (pe_call GA hr2 (by rfl) E2.ga E2.a.kp bA .nil pass0 (pa_cons (pv 0) (pa_cons (pe_lstR (pa_cons pe_int <| pa_cons pe_int <| pa_cons pe_int <| pa_cons pe_int pa_nil)) pa_nil)))))))
      <| pss_cons (ps_set (i := 5) scSmall.nd rfl (.inl rfl) (pe_lstR pa_nil))
      <| pss_cons (ps_for PassesOwn.never rfl (pi_range1 (by rfl) R.range (pa_cons (pe_call GA hr2 (by rfl) E2.ga E2.a.kp bA .nil pass0 (pa_cons (pv 0) (pa_cons (pe_lstR (pa_cons pe_int <| pa_cons pe_int <| pa_cons pe_int <| pa_cons pe_int pa_nil)) pa_nil))) pa_nil)) (pg_name (i := 6) scSmall.nd rfl (.inl rfl))
          (pss_cons (ps_set (i := 7) scSmall.nd rfl (.inl rfl) (pe_call GU hr1 (by rfl) D.gu D.u.kp bU .nil pass0 (pa_cons (pv 2) (pa_cons (pe_call GC hr1 (by rfl) D.gc D.c.kp bC .nil pass0 (pa_cons (pv 0) (pa_cons (pv 2) pa_nil))) pa_nil))))
          <| pss_one (ps_expr (pe_bm PySem.F.plainAttrs_list PySem.F.slot_list_append PySem.F.type_list_append mt_append (pv 5) (pa_cons (pe_tupR (pa_cons (pe_call GA hr2 (by rfl) E2.ga E2.a.kp bA .nil pass0 (pa_cons (pv 0) (pa_cons (pv 4) pa_nil))) (pa_cons (pe_call GS hr1 (by rfl) D.gs D.s.kp bS .nil pass0 (pa_cons (pv 7) (pa_cons (pe_op op_sub (pe_call GC hr1 (by rfl) D.gc D.c.kp bC .nil pass0 (pa_cons (pv 0) (pa_cons pe_int pa_nil))) pe_int) pa_nil))) pa_nil))) pa_nil)))))
      <| pss_cons (ps_setLc (i := 8) (own := [("_law_k", 6)]) (g := gName 6) (tt := tYes) rfl scSmall.nd rfl rfl (sw_true rfl rfl rfl (by decide +kernel)) (pi_range1 (by rfl) R.range (pa_cons (pe_op op_add pe_int (pe_call GC hr1 (by rfl) D.gc D.c.kp bC .nil pass0 (pa_cons (pv 0) (pa_cons (pv 1) pa_nil)))) pa_nil)) (blkOk_by (N := nSmall) (sc := defScope sSmall) (by decide +kernel)) (fun _ _ _ _ _ => pg_name (i := 6) scSmall.nd rfl (Or.inl rfl)) (fun _ _ _ _ _ => pts_nil)
          (fun _ _ _ _ _ => pe_call GM hr (by rfl) gM FM.kp bM .nil pass0 (pa_cons (pv 0) (pa_cons (pv 2) (pa_cons (pv 4) pa_nil)))))
      <| pss_one (ps_ret (pe_lstR (pa_cons (pe_callTy call_tuple_of (by rfl) R.tuple (by decide +kernel) (pa_cons (pe_slice (r := rSlR K) sl_listR (pv 3) po_none (po_some (pv 2))) pa_nil)) (pa_cons (pe_callTy call_tuple_of (by rfl) R.tuple (by decide +kernel) (pa_cons (pv 5) pa_nil)) (pa_cons (pe_callTy call_tuple_of (by rfl) R.tuple (by decide +kernel) (pa_cons (pv 8) pa_nil)) pa_nil))))), ?_⟩
    refine ⟨_, rfl, p, _, rfl, hp, by decide, by decide, fun r1 H1 r10 r11 hp1 b1 => ⟨_, _, rfl, rfl, _, rfl, p, rfl, hp1, fun q l H2 okl nq eq hp2 b2 => ⟨(show 2 ≤ 1000 by decide), fun T3 H3 n3 => ?_⟩⟩⟩
    obtain ⟨j1, rfl⟩ := Int.eq_ofNat_of_zero_le r10
    have em : (1 + (j1 : Int)) = ((j1 + 1 : Nat) : Int) := by omega
    replace n3 : New H2 T3 (.tup [.int (1 + (j1 : Int)), .ref q]) H3 := n3
    rw [em] at n3
    have m3 : j1 + 1 ≤ 3 := by omega
    have m1 : 1 ≤ j1 + 1 := by omega
    generalize j1 + 1 = m at n3 m3 m1
    refine ⟨T3, _, rfl, SqT.of n3.2.1, rfl, _, _, rfl, _, _, rfl, rfl, ?_⟩
    have hp3 := hp2.same n3.2.2
    have qp : q ≠ p := (hp1.ne nq).symm
    have eq3 := n3.2.2 _ _ eq
    have b3 : But p H H3 := b1.trans (b2.trans (but_same n3.2.2))
    refine ⟨_, rfl, 3, rfl, _, rfl, (show 4 ≤ 1000 by decide), fun L H3' n3' => ⟨p, L, _, rfl, hp3.same n3'.2.2, n3'.2.1, (hp3.ne n3'.1).symm, (show 0 < 4 by decide), (show 4 ≤ 1000 by decide), fun i4 x4 H4 ex4 hp4 b4' => ?_⟩⟩
    obtain ⟨j2, rfl, r21⟩ := ints4 ex4
    have b4 : But p H3 H4 := (but_same n3'.2.2).trans b4'
    refine ⟨_, _, rfl, rfl, _, rfl, q, _, rfl, SqL.of (b4 q _ eq3 qp), fun sp H5 n5 => ?_⟩
    have l6 : (l.map V.str).length = 6 := by
      rw [List.length_map]
      exact okl.six
    have c5 : cutV (l.map V.str) (some 3) (some (4 + (j2 : Int))) = ((l.drop 3).take (j2 + 1)).map V.str := by
      unfold cutV
      rw [show (3 : Int) = ((3 : Nat) : Int) from rfl, show (4 + (j2 : Int)) = ((4 + j2 : Nat) : Int) by omega, HT.sIx_nat, HT.sIx_nat, l6, Nat.min_eq_left (show 4 + j2 ≤ 6 by omega), Nat.min_eq_left (show 3 ≤ 6 by decide), List.map_take, List.map_drop, show 4 + j2 - 3 = j2 + 1 by omega]
    replace n5 : New H4 sp (.lst (cutV (l.map V.str) (some 3) (some (4 + (j2 : Int))))) H5 := n5
    rw [c5] at n5
    have spl : ((l.drop 3).take (j2 + 1)).length ≤ 3 := by
      rw [List.length_take, List.length_drop, okl.six]
      omega
    have spp : 0 < ((l.drop 3).take (j2 + 1)).length := by
      rw [List.length_take, List.length_drop, okl.six]
      omega
    have spn : ∀ z ∈ (l.drop 3).take (j2 + 1), nameS z = true := fun z hz => okl.nm z (List.mem_of_mem_drop (List.mem_of_mem_take hz))
    generalize (l.drop 3).take (j2 + 1) = spS at n5 spl spp spn
    have spp2 : 0 < (spS.map V.str).length := by rw [List.length_map]; exact spp
    have spl2 : (spS.map V.str).length ≤ 1000 := by rw [List.length_map]; omega
    have hp5 := hp4.same n5.2.2
    have b5 : But p H H5 := b3.trans (b4.trans (but_same n5.2.2))
    have esp := n5.2.1
    have snp : sp ≠ p := (hp4.ne n5.1).symm
    have eq5 := n5.2.2 _ _ (b4 q _ eq3 qp)
    -- the sayings
    refine ⟨(show 0 ≤ 1000 by decide), fun A H9 n9 => ?_⟩
    have hp9 := hp5.same n9.2.2
    have Ap : A ≠ p := (hp5.ne n9.1).symm
    refine ⟨_, rfl, (show 4 ≤ 1000 by decide), fun L2 H9' n9' => ⟨p, L2, _, rfl, hp9.same n9'.2.2, n9'.2.1, (hp9.ne n9'.1).symm, (show 0 < 4 by decide), (show 4 ≤ 1000 by decide), fun i5 x5 H10 ex5 hp10 b10' => ?_⟩⟩
    obtain ⟨r3, rfl, r31⟩ := ints4 ex5
    have b10 : But p H9 H10 := (but_same n9'.2.2).trans b10'
    have b510 : But p H5 H10 := (but_same n9.2.2).trans b10
    refine ⟨_, rfl, by omega, by omega, ?_⟩
    refine for_range (lo := 0) (n := (r3 : Int).toNat) (fun i σ H' => ∃ (x6 x7 : Option V) (ss : List (Str × List Int)) (X : List V), σ = [some (.ref p), some (.int n), some (.int m), some (.ref q), some (.ref sp), some (.ref A), x6, x7, none] ∧ ss.length = i ∧ (∀ s ∈ ss, nameS s.1 = true ∧ FmOk m s.2 ∧ s.1 ∈ spS) ∧ H' A = some (.lst X) ∧ DpAll K H' X (ss.map sayD) ∧ Pail H' p ∧ But p H5 H') ⟨_, _, [], [], rfl, rfl, (fun _ h => by cases h), b10 A _ n9.2.1 Ap, .nil, hp10, b510⟩ ?_ ?_
    · rintro i σ H11 hi ⟨x6, x7, ss, X, rfl, ls, hss, hX, hdX, hp11, b11⟩
      refine ⟨_, rfl, _, rfl, _, rfl, p, _, rfl, hp11, by omega, by omega, fun r6 H12 r60 r61 hp12 b12 => ⟨m, r6, rfl, m3, fun v g H13 fb s13 dv => ?_⟩⟩
      have hp13 := hp12.same s13
      have b1113 : But p H11 H13 := b12.trans (but_same s13)
      refine ⟨_, rfl, .inl ⟨rfl, _, SqL.of (b1113 A _ hX Ap)⟩, _, rfl, _, rfl, p, sp, _, rfl, hp13, b1113 sp _ (b11 sp _ esp snp) snp, snp, spp2, spl2, fun i2 x H14 ex hp14 b14 => ?_⟩
      obtain ⟨c, ec, rfl⟩ := strs_at ex
      have hc := List.mem_of_getElem? ec
      refine ⟨_, rfl, _, rfl, p, _, rfl, hp14, by decide, by decide, fun r7 H15 r70 r71 hp15 b15 => ?_⟩
      have dv15 := dp_nl ((b14.nl hp13).trans (b15.nl hp14)) _ (nol_f g) dv
      refine ⟨_, _, rfl, rfl, v, 10, r7 - 1, m, g, rfl, dv15, fb.mono (by decide), m3, by omega, by omega, by decide, fun v2 g2 H16 fb2 s16 dv2 => ⟨(show 2 ≤ 1000 by decide), fun t H17 n17 => ?_⟩⟩
      have s1517 := s16.trans n17.2.2
      have b1117 : But p H11 H17 := b1113.trans (b14.trans (b15.trans (but_same s1517)))
      have hX17 := b1117 A _ hX Ap
      have ln := Pg.dp_len' hdX
      refine ⟨A, _, _, rfl, rfl, hX17, small1000 (by rw [ln, List.length_map]; omega), ?_⟩
      refine ⟨_, _, ss ++ [(c, g2)], _, rfl, by rw [List.length_append, ls]; rfl, fun s hs => ?_, upd_same, ?_, (hp15.same s1517).upd Ap.symm, fun b o e nb => ?_⟩
      · rcases List.mem_append.mp hs with hs | hs
        · exact hss s hs
        · rw [List.mem_singleton.mp hs]
          exact ⟨spn c hc, fm_of (fb2.mono (by decide)), hc⟩
      · rw [List.map_append]
        refine dp_snoc (dp_nl (nl_upd hX17) _ (nol_say (c, g2)) ?_) (dp_nlAll ((b1117.nl hp11).trans (nl_upd hX17)) _ (nol_map nol_say _) hdX)
        exact .tup (SqT.of n17.2.1) (.cons (.str c) (.cons (Pg.dp_sameD n17.2.2 dv2) .nil))
      · rw [upd_ne (ne_of_none e n9.1)]
        exact b1117 b o (b11 b o e nb) nb
    · rintro σ H11 ⟨x6, x7, ss, X, rfl, ls, hss, hX, hdX, hp11, b11⟩
      -- the branches
      refine ⟨_, rfl, _, rfl, p, _, rfl, hp11, by omega, by omega, fun r8 H12 r80 r81 hp12 b12 => ⟨_, _, rfl, rfl, _, rfl, by omega, by omega, ?_⟩⟩
      have hX12 := b12 A _ hX Ap
      have hdX12 := dp_nlAll (b12.nl hp11) _ (nol_map nol_say _) hdX
      have b512 : But p H5 H12 := b11.trans b12
      intro D hD
      refine lc_range (lo := 0) (n := (1 + r8).toNat) (fun i H' => ∃ (as : List Arm) (Y : List V), as.length = i ∧ (∀ a ∈ as, ArmOk m a ∧ a.src ∈ spS ∧ a.tgt ∈ spS) ∧ H' D = some (.lst Y) ∧ DpAll K H' Y (as.map armD) ∧ Pail H' p ∧ But p H12 H') ⟨[], [], rfl, (fun _ h => by cases h), upd_same, .nil, hp12.upd (hp12.ne hD), but_same (same_new hD)⟩ ?_ ?_
      · rintro i H13 hi ⟨as, Y, la, has, hY, hdY, hp13, b13⟩
        refine ⟨rfl, _, rfl, _, rfl, _, rfl, p, sp, m, spS, rfl, m1, m3, hp13, b13 sp _ (b512 sp _ esp snp) snp, snp, spp, spl, spn, fun v a H14 ao h1 h2 dv hp14 b14 => ?_⟩
        have hY14 := b14 D _ hY (hp12.ne hD).symm
        have ln := Pg.dp_len' hdY
        refine ⟨Y, hY14, small1000 (by rw [ln, List.length_map]; omega), as ++ [a], _, by rw [List.length_append, la]; rfl, fun a2 h3 => ?_, upd_same, ?_, hp14.upd (hp12.ne hD), fun b o e nb => ?_⟩
        · rcases List.mem_append.mp h3 with h3 | h3
          · exact has a2 h3
          · rw [List.mem_singleton.mp h3]
            exact ⟨ao, h1, h2⟩
        · rw [List.map_append]
          exact dp_snoc (dp_nl (nl_upd hY14) _ (nol_arm a) dv) (dp_nlAll ((b14.nl hp13).trans (nl_upd hY14)) _ (nol_map nol_arm _) hdY)
        · rw [upd_ne (ne_of_none e hD)]
          exact b14 b o (b13 b o e nb) nb
      · rintro H13 ⟨as, Y, la, has, hY, hdY, hp13, b13⟩
        have b513 : But p H5 H13 := b512.trans b13
        have hX13 := b13 A _ hX12 Ap
        have hdX13 := dp_nlAll (b13.nl hp12) _ (nol_map nol_say _) hdX12
        refine ⟨_, rfl, _, rfl, _, rfl, q, _, rfl, SqL.of (b513 q _ eq5 qp), fun ql H14 n14 => ?_⟩
        rw [cut_take (by omega), ← List.map_take] at n14
        refine ⟨ql, _, rfl, .inl ⟨SqL.of n14.2.1, fun u nu => ?_⟩⟩
        have s15 := same_new (o := .tup ((l.take m).map V.str)) nu
        have hu : Dp K (upd H14 u (.tup ((l.take m).map V.str))) (.ref u) (namesD (l.take m)) := Pg.dp_names (SqT.of upd_same)
        generalize upd H14 u (.tup ((l.take m).map V.str)) = H15 at s15 hu
        have s1315 := n14.2.2.trans s15
        refine ⟨_, rfl, A, _, rfl, .inl ⟨SqL.of (s1315 _ _ hX13), fun b nb => ?_⟩⟩
        have s16 := same_new (o := .tup X) nb
        have hb : Dp K (upd H15 b (.tup X)) (.ref b) (saysD ss) := .tup (SqT.of upd_same) (Pg.dp_sameAllD (s1315.trans s16) hdX13)
        generalize upd H15 b (.tup X) = H16 at s16 hb
        have s1316 := s1315.trans s16
        refine ⟨_, rfl, D, _, rfl, .inl ⟨SqL.of (s1316 _ _ hY), fun z nz => ?_⟩⟩
        have s17 := same_new (o := .tup Y) nz
        have hz : Dp K (upd H16 z (.tup Y)) (.ref z) (armsD as) := .tup (SqT.of upd_same) (Pg.dp_sameAllD (s1316.trans s17) hdY)
        generalize upd H16 z (.tup Y) = H17 at s17 hz
        refine ⟨(show 3 ≤ 1000 by decide), fun r H18 n18 => ?_⟩
        have s1518 := s16.trans (s17.trans n18.2.2)
        have s1318 := s1315.trans s1518
        have b17 : But p H H17 := b5.trans (b513.trans (but_same (s1316.trans s17)))
        have lnm : (l.take m).length = m := by
          rw [List.length_take, okl.six]
          omega
        have oN : OkN (l.take m) := ⟨by omega, by omega, fun y hy => okl.nm y (List.mem_of_mem_take hy), okl.nd.sublist (List.take_sublist _ _)⟩
        have oS : OkS (l.take m).length ss := ⟨by omega, fun s hs => by rw [lnm]; exact say_of (hss s hs).1 (hss s hs).2.1⟩
        have oA : OkA (l.take m).length ss as := ⟨by omega, by omega, fun a ha => by rw [lnm]; exact (has a ha).1, Nat.le_trans (places_few (fun s hs => (hss s hs).2.2) fun a ha => (has a ha).2) spl⟩
        exact k r _ _ _ (l.take m) ss as H18 ⟨oN, oS, oA⟩ (none_but b17 (hp13.same (s1316.trans s17)) n18.1) n18.2.1 (Pg.dp_sameD s1518 hu) (Pg.dp_sameD (s17.trans n18.2.2) hb) (Pg.dp_sameD n18.2.2 hz) (hp13.same s1318) (b5.trans (b513.trans (but_same s1318)))
end
end K5
set_option Elab.async false
set_option linter.all false
set_option maxRecDepth 100000
set_option maxHeartbeats 8000000
namespace Pg
open PySem PySem.Spec PyProof.Rows L2 Gd Rl Te Nu TL
abbrev sLw : Stmt := top 62
abbrev sLa : Stmt := top 63
abbrev sLl : Stmt := top 64
abbrev sLs : Stmt := top 65
section
variable {P : Program} {w : World} {K : PySem.W.Frag} {mg : Str → Option Value} {base : Heap} {f : Addr} {fd : FuncData}
theorem scLw : FnScope ["_law_some", "_law_each"] ["_law_some"] (defScope sLw) := ⟨rfl, rfl, rfl, by decide +kernel, rfl, by decide +kernel, by decide +kernel⟩
theorem ok_lw (F : FnP K "_law_words" sLw f fd) (T : Mo mg) : FnOk P w K mg base CX0 1 f fd ["_law_some"] (spWd K) := by
  refine F.ok scLw (fun vs H Q E h => ?_) (fun cdv A outer s H vs Q E hr h => ?_)
  · obtain ⟨v, d, rfl, _⟩ := h
    rfl
  · obtain ⟨v, fo, rfl, hd, ok, k⟩ := h
    refine ⟨_, PSs.nox <| pss_one (ps_ret (pe_join pe_str (pe_lc (own := [("_law_each", 1)]) (g := gName 1) (tt := tYes) rfl scLw.nd (pi_tup (pv 0)) (blkOk_by (N := ["_law_some", "_law_each"]) (sc := defScope sLw) (by decide +kernel)) (fun _ _ _ _ _ => pg_name (i := 1) scLw.nd rfl (Or.inl rfl)) (fun _ _ _ _ _ => pts_nil)
          (fun _ _ _ _ _ => pe_callTy call_str_int (by rfl) T.str (by decide +kernel) (pa_cons (pv 1) pa_nil))))), ?_⟩
    obtain ⟨a, xs, rfl, hs, ha⟩ := rp_tup (.inl hd)
    have lx := dp_len ha
    rw [List.length_map] at lx
    have h4 := ok.four
    refine ⟨⟨_, rfl⟩, _, rfl, a, rfl, ⟨_, hs⟩, lcR (walk_tup (xs := xs)) (n1 := by omega) (fun H' s' => Same.seqT s' hs) (fun i y _ => ∃ s, fo[i]? = some s ∧ y = .str (numS s)) (fun _ _ _ _ _ e => e) ?_ ?_⟩
    · rintro D acc i x Ha Hb K2 hi s nD hD ⟨rfl, ex⟩ kk
      obtain ⟨n, en, hz⟩ := map_at ha ex
      cases hz
      exact ⟨rfl, _, rfl, n, rfl, num_log (ok.nums n (List.mem_of_getElem? en)), kk _ _ (Same.refl _) ⟨n, en, rfl⟩⟩
    · rintro D H1 zs nw hlen he
      have ez : zs = (fo.map numS).map V.str := by
        rw [List.map_map]
        exact list_is (by rw [hlen, lx]) he
      subst ez
      refine ⟨_, D, fo.map numS, rfl, rfl, .inl (SqL.of nw.2.1), ?_, k H1 nw.2.2⟩
      have := words_sum ok
      rw [show (" " : Str).length = 1 by decide +kernel, List.length_map]
      omega
/-! ### the lines of a branch -/
theorem eB (a : Arm) : ("branch " : Str) ++ a.src ++ " " ++ a.tgt = lineB a := by
  apply ext_tl
  unfold lineB
  simp only [tl_append, List.append_assoc]
  rfl
theorem eT (t : List Int) : ("test " : Str) ++ wordsS t = lineT t := by
  apply ext_tl
  unfold lineT
  simp only [tl_append, List.append_assoc]
  rfl
theorem eS (s : Str × List Int) : ("say " : Str) ++ s.1 ++ " " ++ wordsS s.2 = lineS s := by
  apply ext_tl
  unfold lineS
  simp only [tl_append, List.append_assoc]
  rfl
theorem eV {ns : List Str} (h : OkN ns) : ("vars " : Str) ++ Txt.join " " ns = lineV ns := by
  apply ext_tl
  unfold lineV
  cases ns with
  | nil => exact absurd h.one (by decide)
  | cons n r =>
    rw [join_eq, join_eq]
    show tl (("vars " : Str) ++ Str.join " " (n :: r)) = tl ("vars" ++ " " ++ Str.join " " (n :: r))
    simp only [tl_append, List.append_assoc]
    rw [show tl ("vars " : Str) = tl ("vars" : Str) ++ tl (" " : Str) by decide +kernel, List.append_assoc]
def spLa (K : PySem.W.Frag) : Sp := fun vs H Q _ => ∃ (v : V) (m : Nat) (a : Arm), vs = [v] ∧ m ≤ 3 ∧ ArmOk m a ∧ Dp K H v (armD a) ∧ ∀ q H', Same H H' → H' q = some (.lst ((armL a).map V.str)) → Q (.ref q) H'
abbrev nLa : List Str := ["_law_arm_here", "_law_near", "_law_far", "_law_asks", "_law_turns", "_law_lines_here", "_law_ask_here", "_law_turn_here"]
theorem scLa : FnScope nLa ["_law_arm_here"] (defScope sLa) := ⟨rfl, rfl, rfl, by decide +kernel, rfl, by decide +kernel, by decide +kernel⟩
theorem ok_la {fW : Addr} {dW : FuncData} (F : FnP K "_law_arm_lines" sLa f fd) (T : Mo mg) (FW : FnP K "_law_words" sLw fW dW) (gW : mg "_law_words" = some (.ref fW)) : FnOk P w K mg base CX0 2 f fd ["_law_arm_here"] (spLa K) := by
  have GW : FnOk P w K mg base CX0 1 fW dW ["_law_some"] (spWd K) := ok_lw FW T
  have bW : Binds K dW ["_law_some"] [] := FW.bindsN fun _ _ _ _ _ _ us hl => match us, hl with | [_], _ => rfl
  refine F.ok scLa (fun vs H Q E h => ?_) (fun cdv A outer s H vs Q E hr h => ?_)
  · obtain ⟨v, m, a, rfl, _⟩ := h
    rfl
  · obtain ⟨v, m, ar, rfl, m3, har, hv, k⟩ := h
    refine ⟨_, PSs.nox <| pss_cons (ps_asg (pv 0) (pg_tup (by rfl) (pgs_cons (pg_name (i := 1) scLa.nd rfl (.inl rfl)) (pgs_cons (pg_name (i := 2) scLa.nd rfl (.inl rfl)) (pgs_cons (pg_name (i := 3) scLa.nd rfl (.inl rfl)) (pgs_cons (pg_name (i := 4) scLa.nd rfl (.inl rfl)) pgs_nil))))))
      <| pss_cons (ps_set (i := 5) scLa.nd rfl (.inl rfl) (pe_op op_catR (pe_lstR (pa_cons (pe_op op_add_str (pe_op op_add_str (pe_op op_add_str pe_str (pv 1)) pe_str) (pv 2)) pa_nil))
          (pe_lc (own := [("_law_ask_here", 6)]) (g := gName 6) (tt := tYes) rfl scLa.nd (pi_tup (pv 3)) (blkOk_by (N := nLa) (sc := defScope sLa) (by decide +kernel)) (fun _ _ _ _ _ => pg_name (i := 6) scLa.nd rfl (Or.inl rfl)) (fun _ _ _ _ _ => pts_nil)
            (fun _ _ _ _ _ => pe_op op_add_str pe_str (pe_call GW hr (by rfl) gW FW.kp bW .nil pass0 (pa_cons (pv 6) pa_nil))))))
      <| pss_one (ps_ret (pe_op op_catR (pv 5) (pe_lstR (pa_cons (pe_op op_add_str pe_str (pe_join pe_str (pe_lc (own := [("_law_turn_here", 7)]) (g := gName 7) (tt := tYes) rfl scLa.nd (pi_tup (pv 4)) (blkOk_by (N := nLa) (sc := defScope sLa) (by decide +kernel)) (fun _ _ _ _ _ => pg_name (i := 7) scLa.nd rfl (Or.inl rfl)) (fun _ _ _ _ _ => pts_nil)
            (fun _ _ _ _ _ => pe_call GW hr (by rfl) gW FW.kp bW .nil pass0 (pa_cons (pv 7) pa_nil))))) pa_nil)))), ?_⟩
    obtain ⟨p, ws, rfl, hp, hws⟩ := rp_tup (.inl hv)
    cases hws with
    | @cons w0 _ _ _ z0 hw1 =>
    cases hw1 with
    | @cons w1 _ _ _ z1 hw2 =>
    cases hw2 with
    | @cons w2 _ _ _ z2 hw3 =>
    cases hw3 with
    | @cons w3 _ _ _ z3 hw4 =>
    cases hw4
    cases z0
    cases z1
    obtain ⟨d, ts, rfl, hd, hds⟩ := rp_tup (.inl z2)
    obtain ⟨q, cs, rfl, hq, hqs⟩ := rp_tup (.inl z3)
    have lt := dp_len hds
    have lc := dp_len hqs
    rw [List.length_map] at lt lc
    have t3 := har.t3
    have cm := har.cm
    have l8 := name_len8 har.s
    have l9 := name_len8 har.t
    have b1 : ("branch " : Str).length = 7 := by decide +kernel
    have b2 : (" " : Str).length = 1 := by decide +kernel
    refine ⟨_, rfl, p, _, rfl, hp, rfl, _, _, rfl, _, _, rfl, _, _, rfl, _, _, rfl, rfl, ?_⟩
    refine ⟨_, rfl, _, _, rfl, rfl, sz9 (by omega), _, _, rfl, rfl, sz9 (by rw [len_app, b1, b2]; omega), _, rfl, _, _, rfl, rfl, sz9 (by rw [len_app, len_app, b1, b2]; omega), (show 1 ≤ 1000 by decide), fun l1 H1 n1 => ?_⟩
    have s1 := n1.2.2
    refine ⟨_, rfl, d, rfl, ⟨_, Same.seqT s1 hd⟩, lcR (walk_tup (xs := ts)) (n1 := by omega) (fun H' s' => Same.seqT (s1.trans s') hd) (fun i y _ => ∃ s, ar.tests[i]? = some s ∧ y = .str (lineT s)) (fun _ _ _ _ _ e => e) ?_ ?_⟩
    · rintro D acc j x Ha Hb K2 hi s nD hD ⟨rfl, ex⟩ kk
      obtain ⟨te, et, hx⟩ := map_at hds ex
      have hte := okF_of m3 (forms_each har.ts te (List.mem_of_getElem? et))
      have lw := words_len hte
      refine ⟨rfl, _, rfl, x, te, rfl, dp_same (s1.trans s) _ hx, hte, fun Hc sc => ⟨_, _, rfl, rfl, sz9 (by rw [show ("test " : Str).length = 5 by decide +kernel]; omega), ?_⟩⟩
      rw [eT]
      exact kk _ _ sc ⟨te, et, rfl⟩
    · rintro D H2 ys n2 hlen he
      have ey : ys = (ar.tests.map lineT).map V.str := by
        rw [List.map_map]
        exact list_is (by rw [hlen, lt]) he
      subst ey
      have s2 := s1.trans n2.2.2
      refine ⟨l1, D, _, _, rfl, rfl, n2.2.2 _ _ n1.2.1, n2.2.1, by rw [List.length_map, List.length_map]; show 1 + _ ≤ 1000; omega, fun l3 H3 n3 => ?_⟩
      have s3 := s2.trans n3.2.2
      refine ⟨_, rfl, ⟨_, rfl⟩, _, rfl, q, rfl, ⟨_, Same.seqT s3 hq⟩, lcR (walk_tup (xs := cs)) (n1 := by have := m3; omega) (fun H' s' => Same.seqT (s3.trans s') hq) (fun i y _ => ∃ s, ar.turns[i]? = some s ∧ y = .str (wordsS s)) (fun _ _ _ _ _ e => e) ?_ ?_⟩
      · rintro D2 acc j x Ha Hb K2 hi s nD hD ⟨rfl, ex⟩ kk
        obtain ⟨tu, en, hx⟩ := map_at hqs ex
        have htu := okF_of m3 (forms_each har.cs tu (List.mem_of_getElem? en))
        exact ⟨rfl, _, rfl, x, tu, rfl, dp_same (s3.trans s) _ hx, htu, fun Hc sc => kk _ _ sc ⟨tu, en, rfl⟩⟩
      · rintro D2 H4 ys n4 hlen2 he2
        have ey : ys = (ar.turns.map wordsS).map V.str := by
          rw [List.map_map]
          exact list_is (by rw [hlen2, lc]) he2
        subst ey
        have q1 := turns_sum m3 har
        have q2 := turns_len m3 har
        refine ⟨_, D2, ar.turns.map wordsS, rfl, rfl, .inl (SqL.of n4.2.1), ?_, _, _, rfl, rfl, sz9 (by rw [show ("then " : Str).length = 5 by decide +kernel]; omega), (show 1 ≤ 1000 by decide), fun l5 H5 n5 => ?_⟩
        · rw [show ("; " : Str).length = 2 by decide +kernel, List.length_map]
          omega
        have e3 := n5.2.2 _ _ (n4.2.2 _ _ n3.2.1)
        refine ⟨l3, l5, _, _, rfl, rfl, e3, n5.2.1, by rw [List.length_append, List.length_map, List.length_map]; show 1 + _ + 1 ≤ 1000; omega, fun l6 H6 n6 => ?_⟩
        refine k l6 H6 (s3.trans (n4.2.2.trans (n5.2.2.trans n6.2.2))) ?_
        rw [n6.2.1]
        congr 2
        unfold armL
        rw [List.map_cons, List.map_append, ← eB]
        rfl
/-! ### the lines, the sheet -/
def spLl (K : PySem.W.Frag) (B : List Str → List (Str × List Int) → List Arm → V → Hp → Prop) : Sp := fun vs H Q _ => ∃ (r : Addr) (u v z : V) (m : Nat) (ns : List Str) (ss : List (Str × List Int)) (as : List Arm), vs = [.ref r] ∧ H r = some (.lst [u, v, z]) ∧ Dp K H u (namesD ns) ∧ Dp K H v (saysD ss) ∧ Dp K H z (armsD as) ∧ OkT m ns ss as ∧ ∀ y H', Same H H' → B ns ss as y H' → Q y H'
abbrev nLl : List Str := ["_law_parts", "_law_lines_here", "_law_spot_here", "_law_some", "_law_arm_here"]
theorem scLl : FnScope nLl ["_law_parts"] (defScope sLl) := ⟨rfl, rfl, rfl, by decide +kernel, rfl, by decide +kernel, by decide +kernel⟩
theorem ok_ll {fW fL : Addr} {dW dL : FuncData} (F : FnP K "_law_lines" sLl f fd) (T : Mo mg) (FW : FnP K "_law_words" sLw fW dW) (gW : mg "_law_words" = some (.ref fW)) (FL : FnP K "_law_arm_lines" sLa fL dL) (gL : mg "_law_arm_lines" = some (.ref fL)) : FnOk P w K mg base CX0 3 f fd ["_law_parts"] (spLl K fun ns ss as y H' => ∃ q, y = .ref q ∧ H' q = some (.lst ((linesS ns ss as).map V.str))) := by
  have GW : FnOk P w K mg base CX0 1 fW dW ["_law_some"] (spWd K) := ok_lw FW T
  have bW : Binds K dW ["_law_some"] [] := FW.bindsN fun _ _ _ _ _ _ us hl => match us, hl with | [_], _ => rfl
  have GL : FnOk P w K mg base CX0 2 fL dL ["_law_arm_here"] (spLa K) := ok_la FL T FW gW
  have bL : Binds K dL ["_law_arm_here"] [] := FL.bindsN fun _ _ _ _ _ _ us hl => match us, hl with | [_], _ => rfl
  refine F.ok scLl (fun vs H Q E h => ?_) (fun cdv A outer s H vs Q E hr h => ?_)
  · obtain ⟨r, u, v, z, m, ns, ss, as, rfl, _⟩ := h
    rfl
  · obtain ⟨r, u, v, z, m, ns, ss, as, rfl, hr0, hu, hv, hz, ok, k⟩ := h
    have hr1 := hr.mono (show 1 ≤ 2 by decide)
    refine ⟨_, PSs.nox <| pss_cons (ps_set (i := 1) scLl.nd rfl (.inl rfl) (pe_lstR (pa_cons (pe_op op_add_str pe_str (pe_join pe_str (pe_ix ix_list (pv 0) pe_int (fun _ _ => rfl)))) pa_nil)))
      <| pss_cons (ps_for PassesOwn.never rfl (pi_tup (pe_ix ix_list (pv 0) pe_int (fun _ _ => rfl))) (pg_tup (by rfl) (pgs_cons (pg_name (i := 2) scLl.nd rfl (.inl rfl)) (pgs_cons (pg_name (i := 3) scLl.nd rfl (.inl rfl)) pgs_nil)))
          (pss_one (ps_expr (pe_bm PySem.F.plainAttrs_list PySem.F.slot_list_append PySem.F.type_list_append mt_append (pv 1) (pa_cons (pe_op op_add_str (pe_op op_add_str (pe_op op_add_str pe_str (pv 2)) pe_str) (pe_call GW hr1 (by rfl) gW FW.kp bW .nil pass0 (pa_cons (pv 3) pa_nil))) pa_nil)))))
      <| pss_cons (ps_for PassesOwn.never rfl (pi_tup (pe_ix ix_list (pv 0) pe_int (fun _ _ => rfl))) (pg_name (i := 4) scLl.nd rfl (.inl rfl))
          (pss_one (ps_set (i := 1) scLl.nd rfl (.inl rfl) (pe_op op_catR (pv 1) (pe_call GL hr (by rfl) gL FL.kp bL .nil pass0 (pa_cons (pv 4) pa_nil))))))
      <| pss_one (ps_ret (pv 1)), ?_⟩
    obtain ⟨a, xs, rfl, hs, ha⟩ := rp_tup (.inl hu)
    have ex := dp_strs ha
    subst ex
    obtain ⟨b, ys, rfl, hb, hbs⟩ := rp_tup (.inl hv)
    obtain ⟨c, zs, rfl, hc, hcs⟩ := rp_tup (.inl hz)
    have ly := dp_len hbs
    have lz := dp_len hcs
    rw [List.length_map] at ly lz
    have n3 := ok.n.three
    have s3 := ok.s.three
    have a5 := ok.a5
    have lv := lineV_len ok.n
    refine ⟨⟨_, rfl⟩, _, rfl, r, _, 0, _, rfl, rfl, SqL.of hr0, rfl, _, a, ns, rfl, rfl, .inr hs, ?_, _, _, rfl, rfl, sz9 ?_, (show 1 ≤ 1000 by decide), fun l H2 n2 => ?_⟩
    · have := lineV_sum ok.n
      rw [List.map_cons, List.sum_cons] at this
      rw [show (" " : Str).length = 1 by decide +kernel]
      omega
    · have := join_len " " ns
      have h2 := lineV_sum ok.n
      rw [List.map_cons, List.sum_cons] at h2
      rw [show (" " : Str).length = 1 by decide +kernel] at this
      rw [show ("vars " : Str).length = 5 by decide +kernel]
      omega
    replace n2 : New H l (.lst [.str (("vars " : Str) ++ Txt.join " " ns)]) H2 := n2
    rw [eV ok.n] at n2
    have g2 : Grow H l [lineV ns] H2 := ⟨n2.1, n2.2.2, n2.2.1⟩
    refine ⟨_, rfl, r, _, 1, _, rfl, rfl, SqL.of (g2.s _ _ hr0), rfl, b, rfl, ⟨_, Same.seqT g2.s hb⟩, for_tup (Pv := fun i σ H' => ∃ x2 x3 x4, σ = [some (.ref r), some (.ref l), x2, x3, x4] ∧ Grow H l (lineV ns :: (ss.take i).map lineS) H') ⟨_, _, _, rfl, g2⟩ (fun i σ H' _ ⟨_, _, _, _, g⟩ => Same.seqT g.s hb) ?_ ?_⟩
    · rintro i x σ H3 ex ⟨x2, x3, x4, rfl, g3⟩
      obtain ⟨sy, es, hx⟩ := map_at hbs ex
      have hsy := ok.s.sy sy (List.mem_of_getElem? es)
      obtain ⟨p, ws, rfl, hp, hws⟩ := rp_tup (.inl hx)
      cases hws with
      | @cons w0 _ _ _ z0 hw1 =>
      cases hw1 with
      | @cons w1 _ _ _ z1 hw2 =>
      cases hw2
      cases z0
      obtain ⟨k1, k2⟩ := say_parts hsy
      have l8 := name_len8 k1
      have lw := words_len (okF_of ok.m3 k2)
      have b1 : ("say " : Str).length = 4 := by decide +kernel
      have b2 : (" " : Str).length = 1 := by decide +kernel
      refine ⟨p, _, rfl, Same.seqT g3.s hp, rfl, _, _, rfl, _, _, rfl, rfl, ?_⟩
      refine ⟨_, rfl, .inl ⟨rfl, _, SqL.of g3.e⟩, _, rfl, _, _, rfl, rfl, sz9 (by omega), _, _, rfl, rfl, sz9 (by rw [len_app]; omega), _, rfl, w1, sy.2, rfl, dp_same g3.s _ z1, okF_of ok.m3 k2, fun H4 s4 => ⟨_, _, rfl, rfl, sz9 (by rw [len_app, len_app]; omega), ?_⟩⟩
      have g4 := g3.keep s4
      rw [eS]
      refine ⟨l, _, _, rfl, rfl, g4.e, small1000 (by rw [List.length_map, List.length_cons, List.length_map, List.length_take]; omega), ?_⟩
      refine ⟨_, _, _, rfl, ?_⟩
      have g5 := g4.put (lineS sy)
      have e5 : lineV ns :: (ss.take i).map lineS ++ [lineS sy] = lineV ns :: (ss.take (i + 1)).map lineS := by
        rw [List.take_add_one, es, List.cons_append]
        simp
      rw [e5] at g5
      exact g5
    · rintro σ H3 ⟨x2, x3, x4, rfl, g3⟩
      rw [ly, List.take_length] at g3
      refine ⟨_, rfl, r, _, 2, _, rfl, rfl, SqL.of (g3.s _ _ hr0), rfl, c, rfl, ⟨_, Same.seqT g3.s hc⟩, for_tup (Pv := fun i σ H' => ∃ (l : Addr) (x2 x3 x4 : Option V), σ = [some (.ref r), some (.ref l), x2, x3, x4] ∧ Same H H' ∧ H' l = some (.lst ((linesS ns ss (as.take i)).map V.str))) ⟨l, _, _, _, rfl, g3.s, ?_⟩ (fun i σ H' _ ⟨_, _, _, _, _, s, _⟩ => Same.seqT s hc) ?_ ?_⟩
      · rw [g3.e]
        unfold linesS
        simp
      · rintro i x σ H4 ex ⟨l, x2, x3, x4, rfl, s4, h4⟩
        obtain ⟨ar, ea, hx⟩ := map_at hcs ex
        have har := ok.arm ar (List.mem_of_getElem? ea)
        have okI : OkT m ns ss (as.take i) := ⟨ok.m3, ok.n, ok.s, by rw [List.length_take]; omega, fun a ha => ok.arm a (List.mem_of_mem_take ha)⟩
        have lI := lines_len okI
        have lA := armL_len har
        refine ⟨_, rfl, _, rfl, x, m, ar, rfl, ok.m3, har, dp_same s4 _ hx, fun q H5 s5 hq => ?_⟩
        refine ⟨l, q, _, _, rfl, rfl, s5 _ _ h4, hq, by rw [List.length_map, List.length_map]; omega, fun l2 H6 n6 => ?_⟩
        refine ⟨l2, _, _, _, rfl, s4.trans (s5.trans n6.2.2), ?_⟩
        rw [n6.2.1, List.take_add_one, ea]
        unfold linesS
        simp
      · rintro σ H4 ⟨l, x2, x3, x4, rfl, s4, h4⟩
        rw [lz, List.take_length] at h4
        exact ⟨_, rfl, k _ H4 s4 ⟨l, rfl, h4⟩⟩
theorem scLs : FnScope ["_law_parts"] ["_law_parts"] (defScope sLs) := ⟨rfl, rfl, rfl, by decide +kernel, rfl, by decide +kernel, by decide +kernel⟩
theorem ok_ls {fW fL fN : Addr} {dW dL dN : FuncData} (F : FnP K "_law_sheet" sLs f fd) (T : Mo mg) (FW : FnP K "_law_words" sLw fW dW) (gW : mg "_law_words" = some (.ref fW)) (FL : FnP K "_law_arm_lines" sLa fL dL) (gL : mg "_law_arm_lines" = some (.ref fL)) (FN : FnP K "_law_lines" sLl fN dN) (gN : mg "_law_lines" = some (.ref fN)) : FnOk P w K mg base CX0 4 f fd ["_law_parts"] (spLl K fun ns ss as y _ => y = .str (textS ns ss as)) := by
  have GN : FnOk P w K mg base CX0 3 fN dN ["_law_parts"] (spLl K fun ns ss as y H' => ∃ q, y = .ref q ∧ H' q = some (.lst ((linesS ns ss as).map V.str))) := ok_ll FN T FW gW FL gL
  have bN : Binds K dN ["_law_parts"] [] := FN.bindsN fun _ _ _ _ _ _ us hl => match us, hl with | [_], _ => rfl
  refine F.ok scLs (fun vs H Q E h => ?_) (fun cdv A outer s H vs Q E hr h => ?_)
  · obtain ⟨r, u, v, z, m, ns, ss, as, rfl, _⟩ := h
    rfl
  · obtain ⟨r, u, v, z, m, ns, ss, as, rfl, hr0, hu, hv, hz, ok, k⟩ := h
    refine ⟨_, PSs.nox <| pss_one (ps_ret (pe_join pe_str (pe_call GN hr (by rfl) gN FN.kp bN .nil pass0 (pa_cons (pv 0) pa_nil)))), ?_⟩
    refine ⟨⟨_, rfl⟩, _, rfl, r, u, v, z, m, ns, ss, as, rfl, hr0, hu, hv, hz, ok, fun y H1 s1 hy => ?_⟩
    obtain ⟨q, rfl, hq⟩ := hy
    have h1 := lines_sum ok
    have h2 := lines_len ok
    refine ⟨_, q, linesS ns ss as, rfl, rfl, .inl (SqL.of hq), ?_, k _ H1 s1 rfl⟩
    rw [show ("\n" : Str).length = 1 by decide +kernel]
    omega
end
end Pg
set_option Elab.async false
set_option linter.all false
set_option maxRecDepth 100000
set_option maxHeartbeats 8000000
namespace Pg
open PySem PySem.Spec PyProof.Rows L2 Gd Rl Te Nu TL
abbrev sSp : Stmt := top 66
/-! ### the places, found one by one -/
theorem firsts_snoc (l : List Str) (z : Str) : firsts (l ++ [z]) = if l.contains z = true then firsts l else firsts l ++ [z] := by
  unfold firsts
  rw [List.length_append, List.length_singleton, List.range_succ, List.filter_append, List.map_append]
  have e1 : ((List.range l.length).filter (firstB (l ++ [z]))).map (fun i => (l ++ [z]).getD i "") = ((List.range l.length).filter (firstB l)).map fun i => l.getD i "" := by
    have ef : (List.range l.length).filter (firstB (l ++ [z])) = (List.range l.length).filter (firstB l) := by
      apply List.filter_congr
      intro i hi
      have hi2 : i < l.length := List.mem_range.mp hi
      unfold firstB
      rw [List.take_append_of_le_length (Nat.le_of_lt hi2), List.getD_eq_getElem?_getD, List.getD_eq_getElem?_getD, List.getElem?_append_left hi2]
    rw [ef]
    apply List.map_congr_left
    intro i hi
    have hi2 : i < l.length := List.mem_range.mp (List.mem_filter.mp hi).1
    rw [List.getD_eq_getElem?_getD, List.getD_eq_getElem?_getD, List.getElem?_append_left hi2]
  have e2 : (l ++ [z]).getD l.length "" = z := by
    rw [List.getD_eq_getElem?_getD, List.getElem?_append_right (Nat.le_refl _), Nat.sub_self]
    rfl
  have e3 : firstB (l ++ [z]) l.length = !l.contains z := by
    unfold firstB
    rw [e2, List.take_left]
  rw [e1, List.filter_cons, e3]
  cases h : l.contains z with
  | true => simp
  | false =>
    simp only [Bool.not_false, if_true, List.filter_nil, List.map_cons, List.map_nil, e2]
    rw [if_neg Bool.false_ne_true]
theorem mem_firsts : ∀ (n : Nat) (l : List Str), l.length = n → ∀ z ∈ l, z ∈ firsts l
  | 0, l, h, z, hz => by
    rw [List.length_eq_zero_iff.mp h] at hz
    cases hz
  | n + 1, l, h, z, hz => by
    have hne : l ≠ [] := fun e => by rw [e] at h; cases h
    have e := List.dropLast_concat_getLast hne
    rw [← e] at hz ⊢
    rw [firsts_snoc]
    have hl : l.dropLast.length = n := by
      rw [List.length_dropLast, h]
      rfl
    by_cases hm : z ∈ l.dropLast
    · have ih := mem_firsts n l.dropLast hl z hm
      split
      · exact ih
      · exact List.mem_append_left _ ih
    · rcases List.mem_append.mp hz with hz | hz
      · exact absurd hz hm
      · have ez := List.mem_singleton.mp hz
        rw [if_neg]
        · exact List.mem_append_right _ hz
        · intro hc
          have : l.getLast hne ∈ l.dropLast := by simpa using hc
          exact hm (by rw [ez]; exact this)
theorem firsts_same (l : List Str) (z : Str) : (firsts l).contains z = l.contains z := by
  rw [Bool.eq_iff_iff]
  simp only [List.contains_iff_mem]
  exact ⟨fun h => K5.firsts_mem z h, fun h => mem_firsts l.length l rfl z h⟩
section
variable {P : Program} {w : World} {K : PySem.W.Frag} {mg : Str → Option Value} {base : Heap} {f : Addr} {fd : FuncData}
abbrev nSp : List Str := ["_law_parts", "_law_found", "_law_spot_here", "_law_some", "_law_arm_here"]
theorem scSp : FnScope nSp ["_law_parts"] (defScope sSp) := ⟨rfl, rfl, rfl, by decide +kernel, rfl, by decide +kernel, by decide +kernel⟩
theorem ok_sp (F : FnP K "_law_spots" sSp f fd) (T : Mo mg) : FnOk P w K mg base CX0 1 f fd ["_law_parts"] (spLl K fun ns ss as y H' => ∃ q, y = .ref q ∧ SqT K H' q ((placesS ss as).map V.str)) := by
  refine F.ok scSp (fun vs H Q E h => ?_) (fun cdv A outer s H vs Q E hr h => ?_)
  · obtain ⟨r, u, v, z, m, ns, ss, as, rfl, _⟩ := h
    rfl
  · obtain ⟨r, u, v, z, m, ns, ss, as, rfl, hr0, hu, hv, hz, ok, k⟩ := h
    refine ⟨_, PSs.nox <| pss_cons (ps_set (i := 1) scSp.nd rfl (.inl rfl) (pe_lstR pa_nil))
      <| pss_cons (ps_for PassesOwn.never rfl (pi_tup (pe_ix ix_list (pv 0) pe_int (fun _ _ => rfl))) (pg_tup (by rfl) (pgs_cons (pg_name (i := 2) scSp.nd rfl (.inl rfl)) (pgs_cons (pg_name (i := 3) scSp.nd rfl (.inl rfl)) pgs_nil)))
          (pss_one (ps_if (pt_cmpR (r := rIn K true) op_notIn_seq (pv 2) (pv 1) (by rfl)) (pss_one (ps_expr (pe_bm PySem.F.plainAttrs_list PySem.F.slot_list_append PySem.F.type_list_append mt_append (pv 1) (pa_cons (pv 2) pa_nil)))) pss_nil)))
      <| pss_cons (ps_for PassesOwn.never rfl (pi_tup (pe_ix ix_list (pv 0) pe_int (fun _ _ => rfl))) (pg_name (i := 4) scSp.nd rfl (.inl rfl))
          (pss_one (ps_for PassesOwn.never rfl (pi_tup (pe_slice (r := rSlTR K) sl_tupR (pv 4) po_none (po_some pe_int))) (pg_name (i := 2) scSp.nd rfl (.inl rfl))
            (pss_one (ps_if (pt_cmpR (r := rIn K true) op_notIn_seq (pv 2) (pv 1) (by rfl)) (pss_one (ps_expr (pe_bm PySem.F.plainAttrs_list PySem.F.slot_list_append PySem.F.type_list_append mt_append (pv 1) (pa_cons (pv 2) pa_nil)))) pss_nil)))))
      <| pss_one (ps_ret (pe_callTy call_tuple_of (by rfl) T.tuple (by decide +kernel) (pa_cons (pv 1) pa_nil))), ?_⟩
    obtain ⟨b, ys, rfl, hb, hbs⟩ := rp_tup (.inl hv)
    obtain ⟨c, zs, rfl, hc, hcs⟩ := rp_tup (.inl hz)
    have ly := dp_len hbs
    have lz := dp_len hcs
    rw [List.length_map] at ly lz
    have s3 := ok.s.three
    have a5 := ok.a5
    have few : ∀ {l : List Str}, l.length ≤ 20 → ((firsts l).map V.str).length < sizeLine := fun {l} h => small1000 (by have := firsts_le l; rw [List.length_map]; omega)
    have eB : ∀ (l : List Str) (y : Str), (if true = true then !inV (V.str y) ((firsts l).map V.str) else inV (V.str y) ((firsts l).map V.str)) = !l.contains y := fun l y => by
      rw [if_pos rfl, inV_strs, firsts_same]
    refine ⟨(show 0 ≤ 1000 by decide), fun l H2 n2 => ?_⟩
    have g2 : Grow H l (firsts []) H2 := ⟨n2.1, n2.2.2, n2.2.1⟩
    refine ⟨_, rfl, r, _, 1, _, rfl, rfl, SqL.of (g2.s _ _ hr0), rfl, b, rfl, ⟨_, Same.seqT g2.s hb⟩, for_tup (Pv := fun i σ H' => ∃ x2 x3 x4, σ = [some (.ref r), some (.ref l), x2, x3, x4] ∧ Grow H l (firsts ((ss.take i).map Prod.fst)) H') ⟨_, _, _, rfl, g2⟩ (fun i σ H' _ ⟨_, _, _, _, g⟩ => Same.seqT g.s hb) ?_ ?_⟩
    · rintro i x σ H3 ex ⟨x2, x3, x4, rfl, g3⟩
      obtain ⟨sy, es, hx⟩ := map_at hbs ex
      obtain ⟨p, ws, rfl, hp, hws⟩ := rp_tup (.inl hx)
      cases hws with
      | @cons w0 _ _ _ z0 hw1 =>
      cases hw1 with
      | @cons w1 _ _ _ z1 hw2 =>
      cases hw2
      cases z0
      refine ⟨p, _, rfl, Same.seqT g3.s hp, rfl, _, _, rfl, _, _, rfl, rfl, ?_⟩
      refine ⟨_, rfl, _, rfl, l, _, rfl, .inl (SqL.of g3.e), rfl, flat_strs _, _, rfl, ?_⟩
      have et : (ss.take (i + 1)).map Prod.fst = (ss.take i).map Prod.fst ++ [sy.1] := by
        rw [List.take_add_one, es]
        simp
      cases hm : ((ss.take i).map Prod.fst).contains sy.1 with
      | true =>
        refine iteBF ((eB _ _).trans (by rw [hm]; rfl)) ?_
        refine ⟨_, _, _, rfl, ?_⟩
        rw [et, firsts_snoc, if_pos hm]
        exact g3
      | false =>
        refine iteBT ((eB _ _).trans (by rw [hm]; rfl)) ?_
        refine ⟨_, rfl, .inl ⟨rfl, _, SqL.of g3.e⟩, _, rfl, l, _, _, rfl, rfl, g3.e, few (by rw [List.length_map, List.length_take]; omega), ?_⟩
        refine ⟨_, _, _, rfl, ?_⟩
        rw [et, firsts_snoc, if_neg (by rw [hm]; exact Bool.false_ne_true)]
        exact g3.put sy.1
    · rintro σ H3 ⟨x2, x3, x4, rfl, g3⟩
      rw [ly, List.take_length] at g3
      have e0 : placesS ss (as.take 0) = firsts (ss.map Prod.fst) := by
        unfold placesS standS
        simp
      refine ⟨_, rfl, r, _, 2, _, rfl, rfl, SqL.of (g3.s _ _ hr0), rfl, c, rfl, ⟨_, Same.seqT g3.s hc⟩, for_tup (Pv := fun i σ H' => ∃ x2 x3 x4, σ = [some (.ref r), some (.ref l), x2, x3, x4] ∧ Grow H l (placesS ss (as.take i)) H') ⟨_, _, _, rfl, by rw [e0]; exact g3⟩ (fun i σ H' _ ⟨_, _, _, _, g⟩ => Same.seqT g.s hc) ?_ ?_⟩
      · rintro i x σ H4 ex ⟨x2, x3, x4, rfl, g4⟩
        obtain ⟨ar, ea, hx⟩ := map_at hcs ex
        obtain ⟨p, ws, rfl, hp, hws⟩ := rp_tup (.inl hx)
        cases hws with
        | @cons w0 _ _ _ z0 hw1 =>
        cases hw1 with
        | @cons w1 _ _ _ z1 hw2 =>
        cases hw2 with
        | @cons w2 _ _ _ z2 hw3 =>
        cases hw3 with
        | @cons w3 _ _ _ z3 hw4 =>
        cases hw4
        cases z0
        cases z1
        refine ⟨_, rfl, 2, rfl, p, _, rfl, Same.seqT g4.s hp, fun q H5 s5 hq => ?_⟩
        have g5 := g4.keep s5
        replace hq : SqT K H5 q ([ar.src, ar.tgt].map V.str) := hq
        have lst := stand_len ss (as.take i)
        rw [List.length_take] at lst
        refine ⟨q, rfl, ⟨_, hq⟩, for_tup (xs := [ar.src, ar.tgt].map V.str) (Pv := fun j σ H' => ∃ x2 x3, σ = [some (.ref r), some (.ref l), x2, x3, some (.ref p)] ∧ SqT K H' q ([ar.src, ar.tgt].map V.str) ∧ Grow H l (firsts (standS ss (as.take i) ++ [ar.src, ar.tgt].take j)) H') ⟨_, _, rfl, hq, by simpa [placesS] using g5⟩ (fun j σ H' _ ⟨_, _, _, h, _⟩ => h) ?_ ?_⟩
        · rintro j x σ H6 ex ⟨x2, x3, rfl, h6, g6⟩
          obtain ⟨y, ey, rfl⟩ := strs_at ex
          have hj : j < 2 := (List.getElem?_eq_some_iff.mp ey).1
          refine ⟨_, rfl, _, rfl, l, _, rfl, .inl (SqL.of g6.e), rfl, flat_strs _, _, rfl, ?_⟩
          have et : standS ss (as.take i) ++ [ar.src, ar.tgt].take (j + 1) = standS ss (as.take i) ++ [ar.src, ar.tgt].take j ++ [y] := by
            rw [List.take_add_one, ey, List.append_assoc]
            rfl
          cases hm : (standS ss (as.take i) ++ [ar.src, ar.tgt].take j).contains y with
          | true =>
            refine iteBF ((eB _ _).trans (by rw [hm]; rfl)) ?_
            refine ⟨_, _, rfl, h6, ?_⟩
            rw [et, firsts_snoc, if_pos hm]
            exact g6
          | false =>
            refine iteBT ((eB _ _).trans (by rw [hm]; rfl)) ?_
            refine ⟨_, rfl, .inl ⟨rfl, _, SqL.of g6.e⟩, _, rfl, l, _, _, rfl, rfl, g6.e, few (by rw [List.length_append, lst, List.length_take]; show _ + min j 2 ≤ 20; omega), ?_⟩
            refine ⟨_, _, rfl, seqT_upd g6.e h6, ?_⟩
            rw [et, firsts_snoc, if_neg (by rw [hm]; exact Bool.false_ne_true)]
            exact g6.put y
        · rintro σ H6 ⟨x2, x3, rfl, h6, g6⟩
          refine ⟨_, _, _, rfl, ?_⟩
          have e2 : placesS ss (as.take (i + 1)) = firsts (standS ss (as.take i) ++ [ar.src, ar.tgt].take 2) := by
            unfold placesS
            congr 1
            rw [List.take_add_one, ea]
            unfold standS
            simp
          rw [e2]
          exact g6
      · rintro σ H4 ⟨x2, x3, x4, rfl, g4⟩
        rw [lz, List.take_length] at g4
        refine ⟨_, rfl, l, _, rfl, .inl ⟨SqL.of g4.e, fun q nq => ?_⟩⟩
        exact k _ _ (g4.s.trans (same_new nq)) ⟨q, rfl, SqT.of upd_same⟩
end
end Pg
set_option Elab.async false
set_option linter.all false
set_option maxRecDepth 100000
set_option maxHeartbeats 8000000
namespace K5
open PySem PySem.Spec PyProof.Rows L2 Gd Rl
open Pg (fD dp_ints Bt top)
abbrev sSpot : Stmt := top 78
/-- a point of numbers of up to forty figures -/
def Far (xs : List Int) : Prop := ∀ z ∈ xs, -(10 ^ 40 : Int) ≤ z ∧ z ≤ 10 ^ 40
theorem far_bt {xs : List Int} (h : Far xs) : Bt xs := fun z m => by
  have h2 := h z m
  have e : (10 : Int) ^ 40 = ((10 ^ 40 : Nat) : Int) := by decide
  rw [e] at h2
  have l : (10 ^ 40 : Nat) < 2 ^ 200 := by decide
  exact Nat.le_trans (intBits_le_iff.mpr (show z.natAbs < 2 ^ 200 by omega)) (by decide)
section
variable {P : Program} {w : World} {K : PySem.W.Frag} {mg : Str → Option Value} {base : Heap} {f : Addr} {fd : FuncData}
/-! ### points -/
def spSpot (K : PySem.W.Frag) : Sp := fun vs H Q _ => ∃ (p : Addr) (m : Nat), vs = [.ref p, .int m] ∧ m ≤ 3 ∧ Pail H p ∧ ∀ (v : V) (xs : List Int) (H' : Hp), xs.length = m → Far xs → Dp K H' v (fD xs) → Pail H' p → But p H H' → Q v H'
abbrev nSpot : List Str := ["_law_pail", "_law_size", "_law_menu", "_law_k"]
theorem scSpot : FnScope nSpot ["_law_pail", "_law_size"] (defScope sSpot) := ⟨rfl, rfl, rfl, by decide +kernel, rfl, by decide +kernel, by decide +kernel⟩
theorem ints5 {a b c d e : Int} {B : Int} (ha : -B ≤ a ∧ a ≤ B) (hb : -B ≤ b ∧ b ≤ B) (hc : -B ≤ c ∧ c ≤ B) (hd : -B ≤ d ∧ d ≤ B) (he : -B ≤ e ∧ e ≤ B) {i : Nat} {x : V} (ex : [V.int a, V.int b, V.int c, V.int d, V.int e][i]? = some x) : ∃ z, x = V.int z ∧ -B ≤ z ∧ z ≤ B := by
  match i, ex with
  | 0, ex => exact ⟨_, (Option.some.inj ex).symm, ha⟩
  | 1, ex => exact ⟨_, (Option.some.inj ex).symm, hb⟩
  | 2, ex => exact ⟨_, (Option.some.inj ex).symm, hc⟩
  | 3, ex => exact ⟨_, (Option.some.inj ex).symm, hd⟩
  | 4, ex => exact ⟨_, (Option.some.inj ex).symm, he⟩
  | i + 5, ex => simp at ex
theorem far_small {z : Int} (h : -100 ≤ z ∧ z ≤ 100) : -(10 ^ 40 : Int) ≤ z ∧ z ≤ 10 ^ 40 := by
  have e : (10 : Int) ^ 40 = 10000000000000000000000000000000000000000 := by decide
  rw [e]
  omega
theorem ok_spot {fC fA : Addr} {dC dA : FuncData} (F : FnP K "_law_spot" sSpot f fd) (T : Bl mg) (R : RangeB mg) (FC : FnP K "_law_cast" sCast fC dC) (gC : mg "_law_cast" = some (.ref fC)) (FA : FnP K "_law_any_of" sAny fA dA) (gA : mg "_law_any_of" = some (.ref fA)) : FnOk P w K mg base CX0 3 f fd ["_law_pail", "_law_size"] (spSpot K) := by
  have GC : FnOk P w K mg base CX0 1 fC dC ["_law_pail", "_law_many"] spCast := ok_cast FC T
  have bC : Binds K dC ["_law_pail", "_law_many"] [] := FC.bindsN fun _ _ _ _ _ _ us hl => match us, hl with | [_, _], _ => rfl
  have GA : FnOk P w K mg base CX0 2 fA dA ["_law_pail", "_law_some"] (spAny K) := ok_any FA T FC gC
  have bA : Binds K dA ["_law_pail", "_law_some"] [] := FA.bindsN fun _ _ _ _ _ _ us hl => match us, hl with | [_, _], _ => rfl
  refine F.ok scSpot (fun vs H Q E h => ?_) (fun cdv A outer s H vs Q E hr h => ?_)
  · obtain ⟨p, m, rfl, _⟩ := h
    rfl
  · obtain ⟨p, m, rfl, m3, hp, k⟩ := h
    have hr1 := hr.mono (show 1 ≤ 2 by decide)
    refine ⟨_, PSs.nox <| pss_cons (ps_set (i := 2) scSpot.nd rfl (.inr rfl) (pe_lstR (pa_cons (pe_call GC hr1 (by rfl) gC FC.kp bC .nil pass0 (pa_cons (pv 0) (pa_cons pe_int pa_nil))) (pa_cons (pe_op op_sub (pe_call GC hr1 (by rfl) gC FC.kp bC .nil pass0 (pa_cons (pv 0) (pa_cons pe_int pa_nil))) pe_int) (pa_cons (pe_op op_sub (pe_call GC hr1 (by rfl) gC FC.kp bC .nil pass0 (pa_cons (pv 0) (pa_cons pe_int pa_nil))) pe_int) pa_nil)))))
      <| pss_one (ps_ret (pe_callTy call_tuple_of (by rfl) R.tuple (by decide +kernel) (pa_cons (pe_lc (own := [("_law_k", 3)]) (g := gName 3) (tt := tYes) rfl scSpot.nd (pi_range1 (by rfl) R.range (pa_cons (pv 1) pa_nil)) (blkOk_by (N := nSpot) (sc := defScope sSpot) (by decide +kernel)) (fun _ _ _ _ _ => pg_name (i := 3) scSpot.nd rfl (Or.inl rfl)) (fun _ _ _ _ _ => pts_nil)
          (fun _ _ _ _ _ => pe_call GA hr (by rfl) gA FA.kp bA .nil pass0 (pa_cons (pv 0) (pa_cons (pe_op op_catR (pv 2) (pe_lstR (pa_cons (pe_call GC hr1 (by rfl) gC FC.kp bC .nil pass0 (pa_cons (pv 0) (pa_cons pe_int pa_nil))) (pa_cons (pe_call GC hr1 (by rfl) gC FC.kp bC .nil pass0 (pa_cons (pv 0) (pa_cons pe_int pa_nil))) pa_nil)))) pa_nil)))) pa_nil))), ?_⟩
    refine ⟨_, rfl, p, _, rfl, hp, by decide, by decide, fun r1 H1 r10 r11 hp1 b1 => ⟨_, rfl, p, _, rfl, hp1, by decide, by decide, fun r2 H2 r20 r21 hp2 b2 => ⟨_, _, rfl, rfl, _, rfl, p, _, rfl, hp2, by decide, by decide, fun r3 H3 r30 r31 hp3 b3 => ⟨_, _, rfl, rfl, (show 3 ≤ 1000 by decide), fun M H4 n4 => ?_⟩⟩⟩⟩
    have hp4 := hp3.same n4.2.2
    have Mp : M ≠ p := (hp3.ne n4.1).symm
    have b4 : But p H H4 := b1.trans (b2.trans (b3.trans (but_same n4.2.2)))
    refine ⟨_, rfl, _, rfl, by omega, by omega, ?_⟩
    intro D hD
    have hM := n4.2.1
    refine lc_range (lo := 0) (n := (m : Int).toNat) (fun i H' => ∃ g : List Int, g.length = i ∧ Far g ∧ H' D = some (.lst (g.map V.int)) ∧ Pail H' p ∧ But p H4 H') ⟨[], rfl, (fun _ h => by cases h), upd_same, hp4.upd (hp4.ne hD), but_same (same_new hD)⟩ ?_ ?_
    · rintro i H5 hi ⟨g, lg, hg, hD5, hp5, b5⟩
      refine ⟨rfl, _, rfl, _, rfl, _, rfl, p, _, rfl, hp5, by decide, by decide, fun r6 H6 r60 r61 hp6 b6 => ⟨_, rfl, p, _, rfl, hp6, by decide, by decide, fun r7 H7 r70 r71 hp7 b7 => ⟨(show 2 ≤ 1000 by decide), fun L H8 n8 => ?_⟩⟩⟩
      have b58 := b6.trans (b7.trans (but_same n8.2.2))
      have hM8 := b58 M _ (b5 M _ hM Mp) Mp
      refine ⟨M, L, _, _, rfl, rfl, hM8, n8.2.1, (show 3 + 2 ≤ 1000 by decide), fun C H9 n9 => ?_⟩
      have hp9 := (hp7.same n8.2.2).same n9.2.2
      refine ⟨p, C, _, rfl, hp9, n9.2.1, ((hp7.same n8.2.2).ne n9.1).symm, (show 0 < 5 by decide), (show 5 ≤ 1000 by decide), fun i2 x H10 ex hp10 b10 => ?_⟩
      obtain ⟨z, rfl, hz⟩ := ints5 (B := 100) (by omega) (by omega) (by omega) (by omega) (by omega) ex
      have bb := b58.trans ((but_same n9.2.2).trans b10)
      have hD10 := bb D _ hD5 (hp4.ne hD).symm
      refine ⟨_, hD10, small1000 (by rw [List.length_map]; omega), g ++ [z], by rw [List.length_append, lg]; rfl, fun y hy => ?_, ?_, hp10.upd (hp4.ne hD), ?_⟩
      · rcases List.mem_append.mp hy with hy | hy
        · exact hg y hy
        · rw [List.mem_singleton.mp hy]
          exact far_small hz
      · rw [upd_same, List.map_append]
        rfl
      · intro b o e nb
        rw [upd_ne (ne_of_none e hD)]
        exact bb b o (b5 b o e nb) nb
    · rintro H5 ⟨g, lg, hg, hD5, hp5, b5⟩
      refine ⟨D, _, rfl, .inl ⟨SqL.of hD5, fun q nq => ?_⟩⟩
      exact k _ g _ (by omega) hg (dp_ints (SqT.of upd_same)) (hp5.upd (hp5.ne nq)) (b4.trans (b5.trans (but_same (same_new nq))))
end
end K5
set_option Elab.async false
set_option linter.all false
set_option maxRecDepth 100000
set_option maxHeartbeats 8000000
namespace K5
open PySem PySem.Spec PyProof.Rows L2 Gd Rl
open Pg (Arm namesD saysD armsD OkP ProgAt Mo Defs Mkr FunP sIni sRd spIni spRd spLl sLs sLw sLa sLl nolD)
abbrev sBuilt : Stmt := top 67
/-- read, found by the class's name -/
structure Rdr (K : PySem.W.Frag) (C mcp fRd : Addr) (mc : Value) (dRd : FuncData) : Prop where
  r : ClX.CRead K C mc
  m : ClX.CMet K C mc "read" mcp fRd
  f : FunP K "read" "Program.read" sRd fRd dRd
/-- where the law's texts stand -/
structure Tx (K : PySem.W.Frag) (mg : Str → Option Value) (fLw fLa fLl fLs : Addr) (dLw dLa dLl dLs : FuncData) : Prop where
  w : FnP K "_law_words" sLw fLw dLw
  a : FnP K "_law_arm_lines" sLa fLa dLa
  l : FnP K "_law_lines" sLl fLl dLl
  s : FnP K "_law_sheet" sLs fLs dLs
  gw : mg "_law_words" = some (.ref fLw)
  ga : mg "_law_arm_lines" = some (.ref fLa)
  gl : mg "_law_lines" = some (.ref fLl)
  gs : mg "_law_sheet" = some (.ref fLs)
theorem nol_n (ns : List Str) : nolD (namesD ns) = true := by
  unfold Pg.namesD
  rw [nolD]
  exact Pg.nol_map (fun _ => rfl) ns
theorem nol_a (as : List Arm) : nolD (armsD as) = true := by
  unfold Pg.armsD
  rw [nolD]
  exact Pg.nol_map Pg.nol_arm as
theorem kb_ini {K : PySem.W.Frag} {f : Addr} {fd : FuncData} (F : FunP K "__init__" "Program.__init__" sIni f fd) : KBn K fd ["self", "names", "sayings", "branches"] 1 ["branches", "names", "sayings"] (fun us ws => us ++ (ws.drop 1 ++ ws.take 1)) (fun vs zs => vs ++ (zs.drop 1 ++ zs.take 1)) := by
  obtain ⟨oc, od, dV, kV, doc, pm, an, cdv, ct, osl, rfl, lk, hcd, hD, hK⟩ := F.ex
  rcases hD with ⟨_, rfl⟩ | ⟨e, _⟩
  · exact ⟨fun s us ws _ l1 l2 => match us, ws, l1, l2 with | [_], [_, _, _], _, _ => .of_eq rfl, fun r1 r2 => r1.append ((r2.drop 1).append (r2.take 1))⟩
  · exact absurd rfl e
section
variable {P : Program} {w : World} {K : PySem.W.Frag} {mg : Str → Option Value} {base : Heap} {f C : Addr} {fd : FuncData}
variable {fI fN fF fS fU fCN fCS fCB fY fB fP fX fW fA fO : Addr} {dI dN dF dS dU dCN dCS dCB dY dB dP dX dW dA dO : FuncData}
def spBuilt (K : PySem.W.Frag) (C : Addr) : Sp := fun vs H Q _ => ∃ (p r : Addr) (u v z : V) (ns : List Str) (ss : List (Str × List Int)) (as : List Arm), vs = [.ref p, .ref r] ∧ r ≠ p ∧ Pail H p ∧ H r = some (.lst [u, v, z]) ∧ Dp K H u (namesD ns) ∧ Dp K H v (saysD ss) ∧ Dp K H z (armsD as) ∧ OkP ns ss as ∧
  ∀ x H', Pail H' p → But p H H' → ProgAt K C H' x ns ss as → Q (.ref x) H'
theorem scBuilt : FnScope ["_law_pail", "_law_parts", "_law_way"] ["_law_pail", "_law_parts"] (defScope sBuilt) := ⟨rfl, rfl, rfl, by decide +kernel, rfl, by decide +kernel, by decide +kernel⟩
theorem ok_built {fC fIni fStr mcp fRd fLw fLa fLl fLs : Addr} {mc : Value} {dC dIni dStr dRd dLw dLa dLl dLs : FuncData} (F : FnP K "_law_built" sBuilt f fd) (T : Bl mg) (M0 : Mo mg) (FC : FnP K "_law_cast" sCast fC dC) (gC : mg "_law_cast" = some (.ref fC))
    (X : Pg.Txt K mg C) (D : Defs K mg fI fN fF fS fU fCN fCS fCB fY fB fP fX fW fA fO dI dN dF dS dU dCN dCS dCB dY dB dP dX dW dA dO) (M : Mkr K C fIni fStr dIni dStr) (Z : Rdr K C mcp fRd mc dRd) (L : Tx K mg fLw fLa fLl fLs dLw dLa dLl dLs) : FnOk P w K mg base CX0 10 f fd ["_law_pail", "_law_parts"] (spBuilt K C) := by
  have GC : FnOk P w K mg base CX0 1 fC dC ["_law_pail", "_law_many"] spCast := ok_cast FC T
  have bC : Binds K dC ["_law_pail", "_law_many"] [] := FC.bindsN fun _ _ _ _ _ _ us hl => match us, hl with | [_, _], _ => rfl
  have GI : FnOk P w K mg base CX0 7 fIni dIni ["self", "names", "sayings", "branches"] (spIni K C) := Pg.ok_ini M.i M0 X D
  have bI : Binds K dIni ["self", "names", "sayings", "branches"] [] := M.i.bindsN fun _ _ _ _ _ _ us hl => match us, hl with | [_, _, _, _], _ => rfl
  have GR : FnOk P w K mg base CX0 9 fRd dRd ["cls", "text"] (spRd K C) := Pg.ok_rd Z.f M0 X D M
  have bR : Binds K dRd ["cls", "text"] [] := Z.f.bindsN fun _ _ _ _ _ _ us hl => match us, hl with | [_, _], _ => rfl
  have GS : FnOk P w K mg base CX0 4 fLs dLs ["_law_parts"] (spLl K fun ns ss as y _ => y = .str (Pg.textS ns ss as)) := Pg.ok_ls L.s M0 L.w L.gw L.a L.ga L.l L.gl
  have bS : Binds K dLs ["_law_parts"] [] := L.s.bindsN fun _ _ _ _ _ _ us hl => match us, hl with | [_], _ => rfl
  refine F.ok scBuilt (fun vs H Q E h => ?_) (fun cdv A outer s H vs Q E hr h => ?_)
  · obtain ⟨p, r, u, v, z, ns, ss, as, rfl, _⟩ := h
    rfl
  · obtain ⟨p, r, u, v, z, ns, ss, as, rfl, rp, hp, hr0, hu, hv, hz, ok, k⟩ := h
    have hr1 := hr.mono (show 1 ≤ 9 by decide)
    have hr7 := hr.mono (show 8 ≤ 9 by decide)
    have hr4 := hr.mono (show 4 ≤ 9 by decide)
    refine ⟨_, PSs.nox <| pss_cons (ps_set (i := 2) scBuilt.nd rfl (.inl rfl) (pe_call GC hr1 (by rfl) gC FC.kp bC .nil pass0 (pa_cons (pv 0) (pa_cons pe_int pa_nil))))
      <| pss_cons (ps_if (pt_cmpR op_eq (pv 2) pe_int (nomark _)) (pss_one (ps_ret (pe_make M.m GI hr7 (by rfl) X.g bI .nil pass0 (pa_cons (pe_ix ix_list (pv 1) pe_int (fun _ _ => rfl)) (pa_cons (pe_ix ix_list (pv 1) pe_int (fun _ _ => rfl)) (pa_cons (pe_ix ix_list (pv 1) pe_int (fun _ _ => rfl)) pa_nil)))))) pss_nil)
      <| pss_one (ps_ret (pe_ifExp (pt_cmpR op_eq (pv 2) pe_int (nomark _)) (pe_makeK0 M.m GI hr7 (by rfl) X.g (kb_ini M.i) pass0 (pk_cons (pe_ix ix_list (pv 1) pe_int (fun _ _ => rfl)) (pk_cons (pe_ix ix_list (pv 1) pe_int (fun _ _ => rfl)) (pk_cons (pe_ix ix_list (pv 1) pe_int (fun _ _ => rfl)) pk_nil))))
          (ClX.pe_cmeth (pe_glob (v := .ref C) (by rfl) X.g rfl) Z.r Z.m (GR.raw bR .nil) hr pass0 (pa_cons (pe_call GS hr4 (by rfl) L.gs L.s.kp bS .nil pass0 (pa_cons (pv 1) pa_nil)) pa_nil)))), ?_⟩
    refine ⟨_, rfl, p, _, rfl, hp, by decide, by decide, fun j H1 j0 j1 hp1 b1 => ?_⟩
    have h1 := b1 r _ hr0 rp
    have nl := b1.nl hp
    have hu1 := dp_nl nl _ (nol_n ns) hu
    have hv1 := dp_nl nl _ (Pg.nol_says ss) hv
    have hz1 := dp_nl nl _ (nol_a as) hz
    have mk : ∀ {H2 : Hp} (hp2 : Pail H2 p) (b2 : But p H H2) (s2 : Same H1 H2) (x dx : Addr), H2 x = none → H2 dx = none → dx ≠ x → spIni K C [.ref x, u, v, z] (upd (upd H2 dx (.own x)) x (.ins C dx [])) (fun y H3 => y = .non ∧ Q (.ref x) H3) E0 := by
      intro H2 hp2 b2 s2 x dx nx ndx nex
      have s3 : Same H2 (upd (upd H2 dx (.own x)) x (.ins C dx [])) := fun q o e => by
        rw [upd_ne (ne_of_none e nx), upd_ne (ne_of_none e ndx)]
        exact e
      refine ⟨H2, x, dx, u, v, z, ns, ss, as, rfl, s3, nx, upd_same, Pg.dp_sameD s2 hu1, Pg.dp_sameD s2 hv1, Pg.dp_sameD s2 hz1, ok, fun H4 s4 g => ⟨rfl, ?_⟩⟩
      exact k x H4 (hp2.same s4) (b2.trans (but_same s4)) g
    refine ⟨_, rfl, rfl, _, rfl, ?_⟩
    refine ite2 (fun hc => ?_) (fun hc => ?_)
    · refine ⟨_, rfl, r, _, 0, _, rfl, rfl, SqL.of h1, rfl, _, rfl, r, _, 1, _, rfl, rfl, SqL.of h1, rfl, _, rfl, r, _, 2, _, rfl, rfl, SqL.of h1, rfl, ?_⟩
      exact fun x dx nx ndx nex => mk hp1 b1 (Same.refl _) x dx nx ndx nex
    · refine ⟨_, rfl, rfl, _, rfl, ?_⟩
      refine ite2 (fun hc2 => ?_) (fun hc2 => ?_)
      · refine ⟨_, rfl, r, _, 2, _, rfl, rfl, SqL.of h1, rfl, _, rfl, r, _, 0, _, rfl, rfl, SqL.of h1, rfl, _, rfl, r, _, 1, _, rfl, rfl, SqL.of h1, rfl, rfl, rfl, ?_⟩
        exact fun x dx nx ndx nex => mk hp1 b1 (Same.refl _) x dx nx ndx nex
      · refine ⟨rfl, _, rfl, r, u, v, z, _, ns, ss, as, rfl, h1, hu1, hv1, hz1, ok.t, fun y H2 s2 ey => ?_⟩
        subst ey
        refine ⟨ns, ss, as, rfl, ok, fun x H3 s3 g => ?_⟩
        exact k x H3 (hp1.same (s2.trans s3)) (b1.trans (but_same (s2.trans s3))) g
end
end K5
set_option Elab.async false
set_option linter.all false
set_option maxRecDepth 100000
set_option maxHeartbeats 8000000
namespace Sz
open PySem PySem.Spec PyProof.Rows L2 TL Nu
/-! how long shown data is at most -/
theorem len_ap (x y : Str) : (x ++ y).length = x.length + y.length := by
  rw [len_tl, tl_append, List.length_append, ← len_tl, ← len_tl]
theorem sums_le {l : List Nat} {b : Nat} (h : ∀ x ∈ l, x ≤ b) : l.sum ≤ l.length * b := by
  induction l with
  | nil => simp
  | cons a l ih =>
    rw [List.sum_cons, List.length_cons, Nat.succ_mul]
    have h1 := h a (List.mem_cons_self ..)
    have h2 := ih fun x hx => h x (List.mem_cons_of_mem _ hx)
    omega
theorem sep_le (k : Nat) : ((if k > 0 then ", " else "" : String) : Str).length ≤ 2 := by
  split <;> decide +kernel
theorem from_le : ∀ (ts : List Str) (k : Nat) (acc : Str), (textFrom k acc ts).length ≤ acc.length + (ts.map (·.length)).sum + 2 * ts.length
  | [], k, acc => by
    show acc.length ≤ _
    omega
  | t :: r, k, acc => by
    have ih := from_le r (k + 1) (acc ++ (if k > 0 then ", " else "" : String) ++ t)
    have e : textFrom k acc (t :: r) = textFrom (k + 1) (acc ++ (if k > 0 then ", " else "" : String) ++ t) r := rfl
    rw [e]
    rw [len_ap, len_ap] at ih
    have := sep_le k
    rw [List.map_cons, List.sum_cons, List.length_cons]
    omega
theorem list_le (ts : List Str) : (listText ts).length ≤ (ts.map (·.length)).sum + 2 * ts.length + 2 := by
  unfold listText
  rw [len_ap]
  have := from_le ts 0 "["
  have e1 : ("[" : Str).length = 1 := by decide +kernel
  have e2 : ("]" : Str).length = 1 := by decide +kernel
  rw [e1] at this
  rw [e2]
  omega
theorem join_le (y : Str) : ∀ ps : List Str, (Str.join y ps).length ≤ (ps.map (·.length)).sum + ps.length * y.length
  | [] => Nat.zero_le _
  | [p] => by
    show p.length ≤ _
    simp
  | p :: q :: r => by
    have ih := join_le y (q :: r)
    have e : Str.join y (p :: q :: r) = p ++ y ++ Str.join y (q :: r) := rfl
    rw [e, len_ap, len_ap, List.map_cons, List.sum_cons, List.length_cons, Nat.succ_mul]
    omega
theorem tup_le (ts : List Str) : (tupleText ts).length ≤ (ts.map (·.length)).sum + 2 * ts.length + 3 := by
  unfold tupleText
  rw [len_ap, len_ap]
  have := join_le ", " ts
  have e1 : ("(" : Str).length = 1 := by decide +kernel
  have e2 : (", " : Str).length = 2 := by decide +kernel
  have e3 : ((if ts.length == 1 then ",)" else ")" : String) : Str).length ≤ 2 := by
    split <;> decide +kernel
  rw [e2] at this
  rw [e1]
  omega
/-- shown in at most n signs, at most k deep -/
structure Sh (d : PyData) (n k : Nat) : Prop where
  len : d.shown.length ≤ n
  sh : d.showable = true
  dp : d.depth ≤ k
theorem Sh.mono {d : PyData} {n k n2 k2 : Nat} (h : Sh d n k) (a : n ≤ n2) (b : k ≤ k2) : Sh d n2 k2 := ⟨Nat.le_trans h.len a, h.sh, Nat.le_trans h.dp b⟩
theorem all_len : ∀ ds : List PyData, (PyData.shownAll ds).length = ds.length
  | [] => by simp only [PyData.shownAll]; rfl
  | d :: ds => by
    simp only [PyData.shownAll, List.length_cons, all_len ds]
theorem all_mem : ∀ {ds : List PyData} {t : Str}, t ∈ PyData.shownAll ds → ∃ d ∈ ds, t = d.shown
  | [], t, h => by
    simp only [PyData.shownAll] at h
    cases h
  | d :: ds, t, h => by
    simp only [PyData.shownAll] at h
    rcases List.mem_cons.mp h with rfl | h
    · exact ⟨d, List.mem_cons_self .., rfl⟩
    · obtain ⟨e, he, q⟩ := all_mem h
      exact ⟨e, List.mem_cons_of_mem _ he, q⟩
theorem all_sum {ds : List PyData} {n : Nat} (h : ∀ d ∈ ds, d.shown.length ≤ n) : ((PyData.shownAll ds).map (·.length)).sum ≤ ds.length * n := by
  have q := sums_le (l := (PyData.shownAll ds).map (·.length)) (b := n) fun x hx => by
    obtain ⟨t, ht, rfl⟩ := List.mem_map.mp hx
    obtain ⟨d, hd, rfl⟩ := all_mem ht
    exact h d hd
  rw [List.length_map, all_len] at q
  exact q
theorem all_show : ∀ {ds : List PyData}, (∀ d ∈ ds, d.showable = true) → PyData.showableAll ds = true
  | [], _ => rfl
  | d :: ds, h => by
    simp only [PyData.showableAll, h d (List.mem_cons_self ..), all_show fun e he => h e (List.mem_cons_of_mem _ he)]
    rfl
theorem sh_int {i : Int} (h : -1000000 ≤ i ∧ i ≤ 1000000) : Sh (.int i) 8 1 := by
  refine ⟨?_, ?_, ?_⟩
  · simp only [PyData.shown]
    exact num_len h
  · simp only [PyData.showable]
    exact decide_eq_true (num_log h)
  · simp only [PyData.depth]
    decide
theorem sh_str {z : Str} {n : Nat} (h : ∀ c ∈ z.cps.toList, c < 16 ^ 8) (hn : z.length ≤ n) : Sh (.str z) (10 * n + 2) 1 := by
  refine ⟨?_, ?_, ?_⟩
  · simp only [PyData.shown]
    have := StrLaws.reprText_len z h
    omega
  · simp only [PyData.showable]
  · simp only [PyData.depth]
    decide
theorem sh_bool (b : Bool) : Sh (.bool b) 5 1 := by
  cases b <;> exact ⟨by decide +kernel, by simp only [PyData.showable], by simp only [PyData.depth]; decide⟩
theorem all_deep : ∀ {ds : List PyData} {k : Nat}, (∀ d ∈ ds, d.depth ≤ k) → PyData.depthAll ds ≤ k
  | [], k, _ => by
    simp only [PyData.depthAll]
    exact Nat.zero_le _
  | d :: ds, k, h => by
    have h1 := h d (List.mem_cons_self ..)
    have h2 := all_deep fun e he => h e (List.mem_cons_of_mem _ he)
    simp only [PyData.depthAll]
    omega
theorem sh_tup {ds : List PyData} {n k : Nat} (h : ∀ d ∈ ds, Sh d n k) : Sh (.tuple ds) (ds.length * (n + 2) + 3) (k + 1) := by
  refine ⟨?_, ?_, ?_⟩
  · simp only [PyData.shown]
    have h1 := tup_le (PyData.shownAll ds)
    have h2 := all_sum fun d hd => (h d hd).len
    rw [all_len] at h1
    rw [Nat.mul_add]
    omega
  · simp only [PyData.showable]
    exact all_show fun d hd => (h d hd).sh
  · have := all_deep fun d hd => (h d hd).dp
    simp only [PyData.depth]
    omega
theorem sh_lst {ds : List PyData} {n k : Nat} (h : ∀ d ∈ ds, Sh d n k) : Sh (.list ds) (ds.length * (n + 2) + 2) (k + 1) := by
  refine ⟨?_, ?_, ?_⟩
  · simp only [PyData.shown]
    have h1 := list_le (PyData.shownAll ds)
    have h2 := all_sum fun d hd => (h d hd).len
    rw [all_len] at h1
    rw [Nat.mul_add]
    omega
  · simp only [PyData.showable]
    exact all_show fun d hd => (h d hd).sh
  · have := all_deep fun d hd => (h d hd).dp
    simp only [PyData.depth]
    omega
end Sz
set_option Elab.async false
set_option linter.all false
set_option maxRecDepth 100000
set_option maxHeartbeats 16000000
namespace Pg
open PySem PySem.Spec PyProof.Rows L2 Gd Rl Nu TL Sz
/-! ### how long a program's data shows -/
theorem big_free {z : Str} (h : ∀ s, 128 ≤ s → s ∉ tl z) : ∀ c ∈ z.cps.toList, c < 16 ^ 8 := fun c hc => by
  have : c < 128 := by
    rcases Nat.lt_or_ge c 128 with h1 | h1
    · exact h1
    · exact absurd hc (h c h1)
  have e : (16 : Nat) ^ 8 = 4294967296 := by decide
  omega
theorem low_lf : ∀ c ∈ (letS ++ figS).cps.toList, c < 128 := by decide +kernel
theorem name_big {z : Str} (h : nameS z = true) : ∀ s, 128 ≤ s → s ∉ tl z := fun s hs => name_free h fun hm => by
  have := low_lf s hm
  omega
theorem low {z : Str} (h : (z.cps.toList.all fun c => decide (c < 128)) = true) : ∀ s, 128 ≤ s → s ∉ tl z := fun s hs hm => by
  have := of_decide_eq_true (List.all_eq_true.mp h s hm)
  omega
theorem words_big (f : List Int) : ∀ s, 128 ≤ s → s ∉ tl (wordsS f) := fun s hs => words_free (by omega) f
theorem line_big {l : Ln} (h : OkL l) : ∀ s, 128 ≤ s → s ∉ tl (txtL l) := by
  intro s hs
  cases l with
  | v ns =>
    refine join_free (low (by decide +kernel) s hs) fun p hp => ?_
    rcases List.mem_cons.mp hp with rfl | hp
    · exact low (by decide +kernel) s hs
    · exact name_big ((show OkN ns from h).nm p hp) s hs
  | s p f => exact free_app (free_app (free_app (free_app (low (by decide +kernel) _ hs) (low (by decide +kernel) _ hs)) (name_big h.1 _ hs)) (low (by decide +kernel) _ hs)) (words_big f _ hs)
  | b a t => exact free_app (free_app (free_app (free_app (low (by decide +kernel) _ hs) (low (by decide +kernel) _ hs)) (name_big h.1 _ hs)) (low (by decide +kernel) _ hs)) (name_big h.2 _ hs)
  | t f => exact free_app (free_app (low (by decide +kernel) _ hs) (low (by decide +kernel) _ hs)) (words_big f _ hs)
  | e fs =>
    refine free_app (low (by decide +kernel) _ hs) (join_free (low (by decide +kernel) _ hs) fun p hp => ?_)
    obtain ⟨f, _, rfl⟩ := List.mem_map.mp hp
    exact words_big f _ hs
theorem text_big {ns : List Str} {ss : List (Str × List Int)} {as : List Arm} (ok : OkP ns ss as) : ∀ s, 128 ≤ s → s ∉ tl (textS ns ss as) := by
  intro s hs
  unfold textS
  rw [← txt_all]
  refine join_free (low (by decide +kernel) s hs) fun p hp => ?_
  obtain ⟨l, hl, rfl⟩ := List.mem_map.mp hp
  exact line_big (all_okL ok.n.one ok.t l hl) s hs
theorem sh_name {z : Str} (h : nameS z = true) : Sh (.str z) 82 1 := sh_str (n := 8) (big_free (name_big h)) (name_len8 h)
theorem sh_names {ns : List Str} (h : ∀ z ∈ ns, nameS z = true) (h3 : ns.length ≤ 3) : Sh (namesD ns) 255 2 := by
  have q := sh_tup (ds := ns.map PyData.str) (n := 82) (k := 1) fun d hd => by
    obtain ⟨z, hz, rfl⟩ := List.mem_map.mp hd
    exact sh_name (h z hz)
  rw [List.length_map] at q
  exact q.mono (by omega) (Nat.le_refl _)
theorem sh_form {f : List Int} (ok : OkF f) : Sh (fD f) 43 2 := by
  have q := sh_tup (ds := f.map PyData.int) (n := 8) (k := 1) fun d hd => by
    obtain ⟨z, hz, rfl⟩ := List.mem_map.mp hd
    exact sh_int (ok.nums z hz)
  rw [List.length_map] at q
  have := ok.four
  exact q.mono (by omega) (Nat.le_refl _)
theorem sh_forms {fs : List (List Int)} (h : ∀ f ∈ fs, OkF f) (h3 : fs.length ≤ 3) : Sh (.tuple (fs.map fD)) 138 3 := by
  have q := sh_tup (ds := fs.map fD) (n := 43) (k := 2) fun d hd => by
    obtain ⟨z, hz, rfl⟩ := List.mem_map.mp hd
    exact sh_form (h z hz)
  rw [List.length_map] at q
  exact q.mono (by omega) (Nat.le_refl _)
theorem sh_say {s : Str × List Int} (h1 : nameS s.1 = true) (h2 : OkF s.2) : Sh (sayD s) 171 3 := by
  refine (sh_tup (ds := [.str s.1, fD s.2]) (n := 82) (k := 2) fun d hd => ?_).mono (show 2 * (82 + 2) + 3 ≤ 171 by decide) (Nat.le_refl _)
  rcases List.mem_cons.mp hd with rfl | hd
  · exact (sh_name h1).mono (Nat.le_refl _) (by decide)
  · rw [List.mem_singleton.mp hd]
    exact (sh_form h2).mono (by decide) (Nat.le_refl _)
theorem sh_arm {m : Nat} (m3 : m ≤ 3) {a : Arm} (h : ArmOk m a) : Sh (armD a) 563 4 := by
  refine (sh_tup (ds := [.str a.src, .str a.tgt, .tuple (a.tests.map fD), .tuple (a.turns.map fD)]) (n := 138) (k := 3) fun d hd => ?_).mono (show 4 * (138 + 2) + 3 ≤ 563 by decide) (Nat.le_refl _)
  rcases List.mem_cons.mp hd with rfl | hd
  · exact (sh_name h.s).mono (by decide) (by decide)
  rcases List.mem_cons.mp hd with rfl | hd
  · exact (sh_name h.t).mono (by decide) (by decide)
  rcases List.mem_cons.mp hd with rfl | hd
  · exact sh_forms (fun f hf => okF_of m3 (forms_each h.ts f hf)) h.t3
  · rw [List.mem_singleton.mp hd]
    exact sh_forms (fun f hf => okF_of m3 (forms_each h.cs f hf)) (by have := h.cm; omega)
theorem sh_says {ns : List Str} {ss : List (Str × List Int)} {as : List Arm} (ok : OkP ns ss as) : Sh (saysD ss) 522 4 := by
  have q := sh_tup (ds := ss.map sayD) (n := 171) (k := 3) fun d hd => by
    obtain ⟨z, hz, rfl⟩ := List.mem_map.mp hd
    obtain ⟨k1, k2⟩ := say_parts (ok.s.sy z hz)
    exact sh_say k1 (okF_of ok.n.three k2)
  rw [List.length_map] at q
  have := ok.s.three
  exact q.mono (by omega) (Nat.le_refl _)
theorem sh_arms {ns : List Str} {ss : List (Str × List Int)} {as : List Arm} (ok : OkP ns ss as) : Sh (armsD as) 2828 5 := by
  have q := sh_tup (ds := as.map armD) (n := 563) (k := 4) fun d hd => by
    obtain ⟨z, hz, rfl⟩ := List.mem_map.mp hd
    exact sh_arm ok.n.three (ok.a.arm z hz)
  rw [List.length_map] at q
  have := ok.a.five
  exact q.mono (by omega) (Nat.le_refl _)
theorem sh_text {ns : List Str} {ss : List (Str × List Int)} {as : List Arm} (ok : OkP ns ss as) : Sh (.str (textS ns ss as)) 34802 1 := sh_str (n := 3480) (big_free (text_big ok)) (text_len ok.t)
theorem sh_rep {n : Nat} (h : n ≤ 5) : Sh (.str (reprS n)) 302 1 := by
  refine sh_str (n := 30) (big_free fun s hs => ?_) ?_
  · unfold reprS
    exact free_app (free_app (free_app (low (by decide +kernel) _ hs) (low (by decide +kernel) _ hs)) (num_free _ (.inr (by omega)))) (low (by decide +kernel) _ hs)
  · have hn : (-1000000 : Int) ≤ (n : Int) ∧ (n : Int) ≤ 1000000 := by omega
    have l8 := num_len hn
    show (Str.empty ++ "Program of " ++ numS n ++ " branches" : Str).length ≤ 30
    rw [len_app, len_app, len_app, e0, show ("Program of " : Str).length = 11 by decide +kernel, show (" branches" : Str).length = 9 by decide +kernel]
    omega

end Pg
set_option Elab.async false
set_option linter.all false
set_option maxRecDepth 100000
set_option maxHeartbeats 8000000
namespace Ow
open PySem PySem.Spec PyProof.Rows L2
section
variable {X : Cx} {CX : CXT} {k : Nat} {f : Addr} {sp : Sp} {E : XK} {x : Str} {p pos : Pos} {tk : TA} {fd : FuncData} {ps ks : List Str} {kws : List Keyword} {gg : List Value → List Value → List Value} {gV : List V → List V → List V}
/-- x(k = v, ..), x a def of the module, no argument by position -/
def tFnK (n : Nat) (sp : Sp) (gV : List V → List V → List V) (E : XK) (tk : TA) : TE := fun σ H Q => tk σ H fun zs H2 => zs.length = n ∧ sp (gV [] zs) H2 Q E
theorem pe_callK0 (F : FnOk X.prog X.w X.K X.mg X.base CX k f fd ps sp) (hr : Room k X.A) (hg : Gl X x) (hm : X.mg x = some (.ref f)) (hk : PySem.W.keepIn X.K (.ref f) = true) (hb : KBn X.K fd ps 0 ks gg gV) (hx : Passes CX X E) (hkw : PK X kws tk)
    (hall : (backToKw pos (keywordEach kws X.env)).all (·.1.isSome) = true := by rfl) (hks : (backToKw pos (keywordEach kws X.env)).filterMap (·.1) = ks := by rfl) (hdb : (x == ("__debug__" : Str)) = false := by decide)
    (hpl : ((backTo pos (starEach [] X.env)).any (·.1) || (backToKw pos (keywordEach kws X.env)).any (·.1.isNone)) = false := by rfl) :
    PE X (.Call (.Name x p) [] kws pos) (tFnK ks.length sp gV E tk) := by
  refine ⟨fun pins s σ H Q I h => ?_⟩
  refine wpAny_Call_Name_kw (ld_glob I hg hm ?_ hdb)
  refine PySem.W.callWith_KW0 (h₀ := X.base) I.ok.mod.kin hk hall ?_ hpl
  refine thn (hkw.run pos pins s σ H _ I h) fun ws s2 ⟨zs, H2, I2, rz, l2, q2⟩ => ⟨I2.kIn, ?_⟩
  rw [hks]
  refine wpAny_call (codeAny_mono (F.run X.A X.stack s2 H2 ⟨[], ks.zip ws⟩ (gg [] ws) (gV [] zs) Q E hr I2.env0 (hb.to s2 [] ws I2.kIn rfl (rz.length.symm.trans l2)) (hb.rel .nil rz) q2) fun r s' hq => ?_)
  cases r with
  | error e => exact hx pins σ H2 s2 e s' I2 hq
  | ok fl =>
    cases fl with
    | ret u => exact I2.after hq
    | next => exact False.elim hq
    | brk => exact False.elim hq
    | cont => exact False.elim hq
end
end Ow
namespace Sz
open PySem PySem.Spec PyProof.Rows L2 TL Nu
/-! great whole numbers, shown -/
theorem num_lenB {i : Int} {k : Nat} (k0 : 0 < k) (h : i.natAbs < 10 ^ k) : (numS i).length ≤ k + 1 := by
  rw [len_tl]
  cases i with
  | ofNat n =>
    rw [tl_pos]
    exact Nat.le_trans (numL_len (n := n) (k := k) k0 h) (Nat.le_succ _)
  | negSucc n =>
    rw [tl_neg, List.length_cons]
    have := numL_len (n := n + 1) (k := k) k0 h
    omega
theorem num_logB {i : Int} (h : i.natAbs < 2 ^ 1920) : i.natAbs.log2 < 1920 := by
  by_cases h0 : i.natAbs = 0
  · rw [h0]
    exact Nat.lt_of_lt_of_le (show Nat.log2 0 < 1 by decide) (by decide)
  · exact (Nat.log2_lt h0).mpr h
theorem sh_intB {i : Int} (h : i.natAbs < 10 ^ 60) : Sh (.int i) 61 1 := by
  refine ⟨?_, ?_, ?_⟩
  · simp only [PyData.shown]
    exact num_lenB (by decide) h
  · simp only [PyData.showable]
    have l : (10 ^ 60 : Nat) < 2 ^ 200 := by decide
    exact decide_eq_true (num_logB (Nat.lt_of_lt_of_le (Nat.lt_trans h l) (Nat.pow_le_pow_right (by decide) (by decide))))
  · simp only [PyData.depth]
    decide
theorem sh_intN {i : Int} {k : Nat} (k0 : 0 < k) (k4 : k ≤ 400) (h : i.natAbs < 10 ^ k) : Sh (.int i) (k + 1) 1 := by
  refine ⟨?_, ?_, ?_⟩
  · simp only [PyData.shown]
    exact num_lenB k0 h
  · simp only [PyData.showable]
    have h3 : (10 : Nat) ^ k ≤ 16 ^ k := Nat.pow_le_pow_left (by decide) _
    have h4 : (16 : Nat) ^ k = 2 ^ (4 * k) := by
      rw [show (16 : Nat) = 2 ^ 4 from rfl, ← Nat.pow_mul]
    exact decide_eq_true (num_logB (Nat.lt_of_lt_of_le (Nat.lt_of_lt_of_le h h3) (by rw [h4]; exact Nat.pow_le_pow_right (by decide) (by omega))))
  · simp only [PyData.depth]
    decide
theorem sum_abs {l : List Int} {b : Nat} (h : ∀ z ∈ l, z.natAbs ≤ b) : l.sum.natAbs ≤ l.length * b := by
  induction l with
  | nil => exact Nat.zero_le _
  | cons a l ih =>
    rw [List.sum_cons, List.length_cons, Nat.succ_mul]
    have h1 := h a (List.mem_cons_self ..)
    have h2 := ih fun x hx => h x (List.mem_cons_of_mem _ hx)
    have h3 := Int.natAbs_add_le a l.sum
    omega
end Sz
set_option Elab.async false
set_option linter.all false
set_option maxRecDepth 100000
set_option maxHeartbeats 8000000
namespace K5
open PySem PySem.Spec PyProof.Rows L2 Gd Rl Nu TL Sz
open Pg (fD top okD okAll Bt)
abbrev sThing : Stmt := top 68
/-! ### values of any kind -/
/-- a value that is asked of the program -/
structure OkV (d : PyData) : Prop where
  ok : okD d = true
  sh : PyData.showable d = true
  dp : d.depth ≤ 18
  len : d.shown.length ≤ 1000
  far : ∀ xs, d = fD xs → Far xs
def farB : PyData → Bool
  | .tuple ds => ds.all fun d => match d with
    | .int i => decide (-(10 ^ 40 : Int) ≤ i) && decide (i ≤ 10 ^ 40)
    | _ => true
  | _ => true
theorem farB_ok {d : PyData} (h : farB d = true) : ∀ xs, d = fD xs → Far xs := by
  rintro xs rfl z hz
  have h2 := List.all_eq_true.mp (show ((xs.map PyData.int).all _) = true from h) (.int z) (List.mem_map_of_mem hz)
  obtain ⟨a, b⟩ := Bool.and_eq_true_iff.mp h2
  exact ⟨of_decide_eq_true a, of_decide_eq_true b⟩
def okVB (d : PyData) : Bool := okD d && (PyData.showable d && (decide (d.depth ≤ 18) && (decide (d.shown.length ≤ 1000) && (PyData.canLay0 (.str d.shown) && farB d))))
theorem okV_of {d : PyData} (h : okVB d = true) : OkV d ∧ PyData.canLay0 (.str d.shown) = true := by
  unfold okVB at h
  obtain ⟨h1, h⟩ := Bool.and_eq_true_iff.mp h
  obtain ⟨h2, h⟩ := Bool.and_eq_true_iff.mp h
  obtain ⟨h3, h⟩ := Bool.and_eq_true_iff.mp h
  obtain ⟨h4, h⟩ := Bool.and_eq_true_iff.mp h
  obtain ⟨h5, h6⟩ := Bool.and_eq_true_iff.mp h
  exact ⟨⟨h1, h2, of_decide_eq_true h3, of_decide_eq_true h4, farB_ok h6⟩, h5⟩
/-! small signs in what is shown -/
def Small (z : Str) : Prop := ∀ s, 128 ≤ s → s ∉ tl z
theorem small_lay {z : Str} (h : Small z) : PyData.canLay0 (.str z) = true := by
  simp only [PyData.canLay0]
  unfold PyData.strOk
  rw [Array.all_eq_true_iff_forall_mem]
  intro c hc
  have : c < 128 := by
    rcases Nat.lt_or_ge c 128 with h1 | h1
    · exact h1
    · exact absurd (Array.mem_toList_iff.mpr hc) (h c h1)
  exact decide_eq_true (by omega)
theorem sjoin {y : Str} {ps : List Str} (hy : Small y) (h : ∀ p ∈ ps, Small p) : Small (Str.join y ps) := fun s hs => by
  rw [← join_eq]
  exact Pg.join_free (hy s hs) fun p hp => h p hp s hs
theorem fd_inj {xs ys : List Int} (e : fD xs = fD ys) : xs = ys := by
  have e2 : xs.map PyData.int = ys.map PyData.int := PyData.tuple.inj e
  clear e
  induction xs generalizing ys with
  | nil =>
    cases ys with
    | nil => rfl
    | cons y ys => cases e2
  | cons x xs ih =>
    cases ys with
    | nil => cases e2
    | cons y ys =>
      rw [List.map_cons, List.map_cons] at e2
      obtain ⟨a, b⟩ := List.cons.inj e2
      rw [PyData.int.inj a, ih b]
theorem small_num (i : Int) : Small (PyData.int i).shown := fun s hs => by
  simp only [PyData.shown]
  exact num_free i (.inr (by omega))
theorem small_all {ds : List PyData} (h : ∀ d ∈ ds, Small d.shown) : ∀ t ∈ PyData.shownAll ds, Small t := fun t ht => by
  obtain ⟨d, hd, rfl⟩ := all_mem ht
  exact h d hd
theorem small_tup {ds : List PyData} (h : ∀ d ∈ ds, Small d.shown) : Small (PyData.tuple ds).shown := fun s hs => by
  simp only [PyData.shown]
  unfold tupleText
  refine Pg.free_app (Pg.free_app (Pg.low (z := "(") (by decide +kernel) s hs) (sjoin (Pg.low (z := ", ") (by decide +kernel)) (small_all h) s hs)) ?_
  split
  · exact Pg.low (z := ",)") (by decide +kernel) s hs
  · exact Pg.low (z := ")") (by decide +kernel) s hs
theorem small_from : ∀ (ts : List Str) (k : Nat) (acc : Str), Small acc → (∀ t ∈ ts, Small t) → Small (textFrom k acc ts)
  | [], _, _, ha, _ => ha
  | t :: r, k, acc, ha, h => by
    have e : textFrom k acc (t :: r) = textFrom (k + 1) (acc ++ (if k > 0 then ", " else "" : String) ++ t) r := rfl
    rw [e]
    refine small_from r (k + 1) _ (fun s hs => Pg.free_app (Pg.free_app (ha s hs) ?_) (h t (List.mem_cons_self ..) s hs)) fun x hx => h x (List.mem_cons_of_mem _ hx)
    split
    · exact Pg.low (z := ", ") (by decide +kernel) s hs
    · exact Pg.low (z := "") (by decide +kernel) s hs
theorem small_lst {ds : List PyData} (h : ∀ d ∈ ds, Small d.shown) : Small (PyData.list ds).shown := fun s hs => by
  simp only [PyData.shown]
  unfold listText
  exact Pg.free_app (small_from _ 0 _ (Pg.low (z := "[") (by decide +kernel)) (small_all h) s hs) (Pg.low (z := "]") (by decide +kernel) s hs)
theorem far_abs {xs : List Int} (h : Far xs) : ∀ z ∈ xs, z.natAbs < 10 ^ 41 := fun z hz => by
  have h2 := h z hz
  have e : (10 : Int) ^ 40 = ((10 ^ 40 : Nat) : Int) := by decide
  rw [e] at h2
  have l : (10 ^ 40 : Nat) < 10 ^ 41 := by decide
  omega
theorem sh_far {xs : List Int} (h : Far xs) : ∀ d ∈ xs.map PyData.int, Sh d 61 1 := fun d hd => by
  obtain ⟨z, hz, rfl⟩ := List.mem_map.mp hd
  exact sh_intB (Nat.lt_trans (far_abs h z hz) (by decide))
theorem okV_pt {xs : List Int} (h : Far xs) (l : xs.length ≤ 9) : OkV (fD xs) := by
  have q := sh_tup (sh_far h)
  rw [List.length_map] at q
  refine ⟨?_, q.sh, Nat.le_trans q.dp (by decide), Nat.le_trans q.len (by omega), fun ys e => ?_⟩
  · show (decide ((xs.map PyData.int).length ≤ 1000) && okAll (xs.map PyData.int)) = true
    rw [List.length_map, decide_eq_true (by omega), Pg.ok_ints]
    rfl
  · cases (fd_inj e)
    exact h
theorem okV_ls {xs : List Int} (h : Far xs) (l : xs.length ≤ 9) : OkV (.list (xs.map PyData.int)) := by
  have q := sh_lst (sh_far h)
  rw [List.length_map] at q
  refine ⟨?_, q.sh, Nat.le_trans q.dp (by decide), Nat.le_trans q.len (by omega), fun ys e => by cases e⟩
  · show (decide ((xs.map PyData.int).length ≤ 1000) && okAll (xs.map PyData.int)) = true
    rw [List.length_map, decide_eq_true (by omega), Pg.ok_ints]
    rfl
theorem okV_int {i : Int} (h : -1000000 ≤ i ∧ i ≤ 1000000) : OkV (.int i) :=
  have q := sh_int h
  ⟨rfl, q.sh, Nat.le_trans q.dp (by decide), Nat.le_trans q.len (by decide), fun _ e => by cases e⟩
theorem okV_name {z : Str} (h : Pg.nameS z = true) : OkV (.str z) := by
  have q := Pg.sh_name h
  refine ⟨decide_eq_true (Nat.le_trans (Pg.name_len8 h) (by decide)), q.sh, Nat.le_trans q.dp (by decide), Nat.le_trans q.len (by decide), fun _ e => by cases e⟩
theorem okV_name1 {z : Str} (h : Pg.nameS z = true) : OkV (.tuple [.str z]) := by
  have q := sh_tup (ds := [.str z]) (n := 82) (k := 1) fun d hd => by
    rw [List.mem_singleton.mp hd]
    exact Pg.sh_name h
  refine ⟨?_, q.sh, Nat.le_trans q.dp (by decide), Nat.le_trans q.len (show 1 * (82 + 2) + 3 ≤ 1000 by decide), fun xs e => ?_⟩
  · have h8 := Pg.name_len8 h
    show (decide ((1 : Nat) ≤ 1000) && (okD (.str z) && true)) = true
    rw [show okD (.str z) = true from decide_eq_true (Nat.le_trans h8 (by decide))]
    rfl
  · have e2 : [PyData.str z] = xs.map PyData.int := PyData.tuple.inj e
    cases xs with
    | nil => cases e2
    | cons x xs => cases e2
theorem okV_trues {k : Nat} (h : k ≤ 3) : OkV (.tuple (List.replicate k (.bool true))) := by
  match k, h with
  | 0, _ => exact (okV_of (by decide +kernel)).1
  | 1, _ => exact (okV_of (by decide +kernel)).1
  | 2, _ => exact (okV_of (by decide +kernel)).1
  | 3, _ => exact (okV_of (by decide +kernel)).1
theorem okV_ones {k : Nat} (h : k ≤ 3) : OkV (.tuple (List.replicate k (.str "1"))) := by
  match k, h with
  | 0, _ => exact (okV_of (by decide +kernel)).1
  | 1, _ => exact (okV_of (by decide +kernel)).1
  | 2, _ => exact (okV_of (by decide +kernel)).1
  | 3, _ => exact (okV_of (by decide +kernel)).1
/-! ### the menu -/
def menu : List PyData := [.none, .bool true, .bool false, .int 0, .int 1, .int (-1), .int 2, .int (10 ^ 6 + 1), .int (-10 ^ 39), .str "", .str "a", .str "vars x", .tuple [], .tuple [.int 0], .tuple [.int 1, .int 0], .str "9x",
  .list [], .list [.int 1], .str "A", .dict [], .dict [(.str "a", .int 1)], .tuple [.str "x"], .tuple [.str "a", .tuple [.int 1, .int 0]], .tuple [.tuple [.int 1, .int 0]], .tuple [.str "row"], .tuple [.none], .str "abcdefghi", .str "x y"]
theorem menu_fine : menu.all okVB = true := by decide +kernel
/-- v stands for a thing of the menu -/
def Thing (K : PySem.W.Frag) (H : Hp) (v : V) : Prop := ∃ d, Rp K H v d ∧ OkV d ∧ PyData.canLay0 (.str d.shown) = true
theorem Thing.same {K : PySem.W.Frag} {H H' : Hp} (e : Same H H') {v : V} (h : Thing K H v) : Thing K H' v := let ⟨d, a, b⟩ := h; ⟨d, rp_same e a, b⟩
def Things (K : PySem.W.Frag) (H : Hp) (xs : List V) : Prop := Paired (Rp K H) xs menu
theorem things_at {K : PySem.W.Frag} {H : Hp} : ∀ {xs : List V} {ds : List PyData}, Paired (Rp K H) xs ds → ds.all okVB = true → ∀ {i : Nat} {x : V}, xs[i]? = some x → Thing K H x
  | _, _, .nil, _, i, x, e => by simp at e
  | _, _, .cons r t, h, 0, x, e => by
    simp at e
    subst e
    simp only [List.all_cons, Bool.and_eq_true] at h
    exact ⟨_, r, okV_of h.1⟩
  | _, _, .cons r t, h, i + 1, x, e => by
    simp only [List.all_cons, Bool.and_eq_true] at h
    exact things_at t h.2 (by simpa using e)
theorem pnil {K : PySem.W.Frag} {H : Hp} : Paired (Rp K H) [] [] := .nil
theorem pcons {K : PySem.W.Frag} {H : Hp} {v : V} {d : PyData} {vs : List V} {ds : List PyData} (h : Rp K H v d) (t : Paired (Rp K H) vs ds) : Paired (Rp K H) (v :: vs) (d :: ds) := .cons h t
theorem pcons2 {K : PySem.W.Frag} {H : Hp} {v : V} {d : PyData} {vs : List V} {ds : List PyData} (h : Dp K H v d) (t : Paired (Rp K H) vs ds) : Paired (Rp K H) (v :: vs) (d :: ds) := .cons (.inl h) t
theorem same_p {K : PySem.W.Frag} {H H' : Hp} (e : Same H H') : ∀ {vs : List V} {ds : List PyData}, Paired (Rp K H) vs ds → Paired (Rp K H') vs ds
  | _, _, .nil => .nil
  | _, _, .cons r t => .cons (rp_same e r) (same_p e t)
theorem app_p {K : PySem.W.Frag} {H : Hp} : ∀ {vs ws : List V} {ds es : List PyData}, Paired (Rp K H) vs ds → Paired (Rp K H) ws es → Paired (Rp K H) (vs ++ ws) (ds ++ es)
  | _, _, _, _, .nil, q => q
  | _, _, _, _, .cons r t, q => .cons r (app_p t q)
theorem same_dels {p : Addr} {H H' : Hp} (b : But p H H') : Same (delH H p) (delH H' p) := fun a o e => by
  by_cases h : a = p
  · rw [h, delH_same] at e
    cases e
  · rw [delH_ne h] at e ⊢
    exact b a o e h
theorem same_del {p : Addr} {H H' : Hp} (b : But p H H') : Same (delH H p) H' := fun a o e => by
  by_cases h : a = p
  · rw [h, delH_same] at e
    cases e
  · rw [delH_ne h] at e
    exact b a o e h
theorem del_at {p a : Addr} {H H0 H' : Hp} {o u : HO} (hp : H0 p = some u) (n : New H0 a o H) (s : Same H H') : delH H' p a = some o := by
  rw [delH_ne (ne_of_none hp n.1).symm]
  exact s _ _ n.2.1
def spThing (K : PySem.W.Frag) : Sp := fun vs H Q _ => ∃ p, vs = [.ref p] ∧ Pail H p ∧ ∀ (v : V) (H' : Hp), Thing K (delH H' p) v → Pail H' p → But p H H' → Q v H'
section
variable {P : Program} {w : World} {K : PySem.W.Frag} {mg : Str → Option Value} {base : Heap} {f : Addr} {fd : FuncData}
theorem scThing : FnScope ["_law_pail", "_law_menu"] ["_law_pail"] (defScope sThing) := ⟨rfl, rfl, rfl, by decide +kernel, rfl, by decide +kernel, by decide +kernel⟩
theorem ok_thing {fA fC : Addr} {fdA fdC : FuncData} (F : FnP K "_law_thing" sThing f fd) (T : Bl mg) (FA : FnP K "_law_any_of" sAny fA fdA) (gA : mg "_law_any_of" = some (.ref fA)) (FC : FnP K "_law_cast" sCast fC fdC) (gC : mg "_law_cast" = some (.ref fC)) : FnOk P w K mg base CX0 3 f fd ["_law_pail"] (spThing K) := by
  have GA : FnOk P w K mg base CX0 2 fA fdA ["_law_pail", "_law_some"] (spAny K) := ok_any FA T FC gC
  have bA : Binds K fdA ["_law_pail", "_law_some"] [] := FA.bindsN fun _ _ _ _ _ _ us hl => match us, hl with | [_, _], _ => rfl
  refine F.ok scThing (fun vs H Q E h => ?_) (fun cdv A outer s H vs Q E hr h => ?_)
  · obtain ⟨p, rfl, _⟩ := h
    rfl
  · obtain ⟨p, rfl, hp, k⟩ := h
    refine ⟨_, PSs.nox <| pss_cons (ps_set (i := 1) scThing.nd rfl (.inl rfl) (pe_lstR <| pa_cons pe_non <| pa_cons pe_bl <| pa_cons pe_bl <| pa_cons pe_int <| pa_cons pe_int <| pa_cons (pe_un un_neg pe_int) <| pa_cons pe_int <| pa_cons (pe_op op_add (pe_op op_pow pe_int pe_int) pe_int) <| pa_cons (pe_un un_neg (pe_op op_pow pe_int pe_int))
        <| pa_cons pe_str <| pa_cons pe_str <| pa_cons pe_str <| pa_cons (pe_tupR pa_nil) <| pa_cons (pe_tupR <| pa_cons pe_int pa_nil) <| pa_cons (pe_tupR <| pa_cons pe_int <| pa_cons pe_int pa_nil) <| pa_cons pe_str pa_nil))
      <| pss_cons (ps_set (i := 1) scThing.nd rfl (.inl rfl) (pe_op op_catR (pv 1) (pe_lstR <| pa_cons (pe_lstR pa_nil) <| pa_cons (pe_lstR <| pa_cons pe_int pa_nil) <| pa_cons pe_str <| pa_cons pe_dnewR <| pa_cons (pe_disp (pps_cons pe_str pe_int pps_nil) rfl rfl (by decide) (by decide)) <| pa_cons (pe_tupR <| pa_cons pe_str pa_nil) <| pa_cons (pe_tupR <| pa_cons pe_str <| pa_cons (pe_tupR <| pa_cons pe_int <| pa_cons pe_int pa_nil) pa_nil)
        <| pa_cons (pe_tupR <| pa_cons (pe_tupR <| pa_cons pe_int <| pa_cons pe_int pa_nil) pa_nil) <| pa_cons (pe_tupR <| pa_cons pe_str pa_nil) <| pa_cons (pe_tupR <| pa_cons pe_non pa_nil) <| pa_cons pe_str <| pa_cons pe_str pa_nil)))
      <| pss_one (ps_ret (pe_call GA hr (by rfl) gA FA.kp bA .nil pass0 (pa_cons (pv 0) (pa_cons (pv 1) pa_nil)))), ?_⟩
    have dl : ∀ {n : Nat}, decide (n ≤ 1000) = true → n ≤ 1000 := fun h => of_decide_eq_true h
    refine ⟨_, rfl, _, _, rfl, rfl, ⟨by decide, by decide, by decide⟩, _, _, rfl, rfl, _, _, rfl, rfl, ⟨by decide, by decide, by decide⟩, _, rfl, dl rfl, fun a1 H1 n1 => ⟨dl rfl, fun a2 H2 n2 => ⟨dl rfl, fun a3 H3 n3 => ⟨dl rfl, fun l4 H4 n4 => ?_⟩⟩⟩⟩
    refine ⟨_, rfl, dl rfl, fun l5 H5 n5 => ⟨dl rfl, fun l6 H6 n6 => fun d7 H7 n7 => fun d8 nd8 => ⟨upd_same, [(Sum.inr "a", .int 1)], rfl, by decide, ?_⟩⟩⟩
    have n8 : New H7 d8 (.dK [(Sum.inr "a", .int 1)]) (upd (upd H7 d8 (.dK [])) d8 (.dK (mergeK [] [(Sum.inr "a", .int 1)]))) := ⟨nd8, upd_same, fun b u e => by rw [upd_ne (ne_of_none e nd8), upd_ne (ne_of_none e nd8)]; exact e⟩
    generalize (upd (upd H7 d8 (.dK [])) d8 (.dK (mergeK [] [(Sum.inr "a", .int 1)]))) = H8 at n8 ⊢
    refine ⟨dl rfl, fun a9 H9 n9 => ⟨dl rfl, fun b10 H10 n10 => ⟨dl rfl, fun a11 H11 n11 => ⟨dl rfl, fun b12 H12 n12 => ⟨dl rfl, fun a13 H13 n13 => ⟨dl rfl, fun a14 H14 n14 => ⟨dl rfl, fun a15 H15 n15 => ⟨dl rfl, fun l16 H16 n16 => ?_⟩⟩⟩⟩⟩⟩⟩⟩
    have s16 := Same.refl H16
    have s15 := n16.2.2
    have s14 := n15.2.2.trans s15
    have s13 := n14.2.2.trans s14
    have s12 := n13.2.2.trans s13
    have s11 := n12.2.2.trans s12
    have s10 := n11.2.2.trans s11
    have s9 := n10.2.2.trans s10
    have s8 := n9.2.2.trans s9
    have s7 := n8.2.2.trans s8
    have s6 := n7.2.2.trans s7
    have s5 := n6.2.2.trans s6
    have s4 := n5.2.2.trans s5
    have s3 := n4.2.2.trans s4
    have s2 := n3.2.2.trans s3
    have s1 := n2.2.2.trans s2
    have s0 := n1.2.2.trans s1
    refine ⟨l4, l16, _, _, rfl, rfl, s4 _ _ n4.2.1, n16.2.1, dl rfl, fun l17 H17 n17 => ?_⟩
    have z := n17.2.2
    have hpp := hp
    obtain ⟨o, st, c, q0, _⟩ := hpp
    have q1 := n1.2.2 _ _ q0
    have q2 := n2.2.2 _ _ q1
    have q3 := n3.2.2 _ _ q2
    have q4 := n4.2.2 _ _ q3
    have q5 := n5.2.2 _ _ q4
    have q6 := n6.2.2 _ _ q5
    have q7 := n7.2.2 _ _ q6
    have q8 := n8.2.2 _ _ q7
    have q9 := n9.2.2 _ _ q8
    have q10 := n10.2.2 _ _ q9
    have q11 := n11.2.2 _ _ q10
    have q12 := n12.2.2 _ _ q11
    have q13 := n13.2.2 _ _ q12
    have q14 := n14.2.2 _ _ q13
    have q15 := n15.2.2 _ _ q14
    have q16 := n16.2.2 _ _ q15
    have e1 := del_at q0 n1 (s1.trans z)
    have e2 := del_at q1 n2 (s2.trans z)
    have e3 := del_at q2 n3 (s3.trans z)
    have e5 := del_at q4 n5 (s5.trans z)
    have e6 := del_at q5 n6 (s6.trans z)
    have e7 := del_at q6 n7 (s7.trans z)
    have e8 := del_at q7 n8 (s8.trans z)
    have e9 := del_at q8 n9 (s9.trans z)
    have e10 := del_at q9 n10 (s10.trans z)
    have e11 := del_at q10 n11 (s11.trans z)
    have e12 := del_at q11 n12 (s12.trans z)
    have e13 := del_at q12 n13 (s13.trans z)
    have e14 := del_at q13 n14 (s14.trans z)
    have e15 := del_at q14 n15 (s15.trans z)
    have all : Paired (Rp K (delH H17 p)) _ menu := (pcons2 .non <| pcons2 (.bl true) <| pcons2 (.bl false) <| pcons2 (.int 0) <| pcons2 (.int 1) <| pcons2 (.int (-1)) <| pcons2 (.int 2) <| pcons2 (.int (10 ^ 6 + 1)) <| pcons2 (.int (-10 ^ 39)) <| pcons2 (.str "") <| pcons2 (.str "a") <| pcons2 (.str "vars x")
      <| pcons2 (.tup (.of e1) .nil) <| pcons2 (.tup (.of e2) (.cons (.int 0) .nil)) <| pcons2 (.tup (.of e3) (.cons (.int 1) (.cons (.int 0) .nil))) <| pcons2 (.str "9x")
      <| pcons2 (.lst (.of e5) .nil) <| pcons2 (.lst (.of e6) (.cons (.int 1) .nil)) <| pcons2 (.str "A") <| pcons (.inr ⟨d7, [], [], rfl, e7, .nil, rfl⟩) <| pcons (.inr ⟨d8, _, _, rfl, e8, .cons ⟨rfl, rfl⟩ .nil, rfl⟩)
      <| pcons2 (.tup (.of e9) (.cons (.str "x") .nil)) <| pcons2 (.tup (.of e11) (.cons (.str "a") (.cons (.tup (.of e10) (.cons (.int 1) (.cons (.int 0) .nil))) .nil))) <| pcons2 (.tup (.of e13) (.cons (.tup (.of e12) (.cons (.int 1) (.cons (.int 0) .nil))) .nil)) <| pcons2 (.tup (.of e14) (.cons (.str "row") .nil)) <| pcons2 (.tup (.of e15) (.cons .non .nil)) <| pcons2 (.str "abcdefghi") <| pcons2 (.str "x y") pnil)
    refine ⟨_, rfl, _, rfl, p, l17, _, rfl, hp.same (s0.trans z), n17.2.1, (ne_of_none q16 n17.1).symm, ?_, ?_, fun i x H' ei hp' bt => ?_⟩
    · show 0 < 28
      decide
    · show 28 ≤ 1000
      decide
    · exact k x H' ((things_at all menu_fine ei).same (same_dels bt)) hp' fun b u e nb => bt b u ((s0.trans z) b u e) nb
end
end K5
set_option Elab.async false
set_option linter.all false
set_option maxRecDepth 100000
set_option maxHeartbeats 8000000
namespace Pg
open PySem PySem.Spec PyProof.Rows L2 Gd Rl Te Nu TL Hy Fx Ow
/-! ### the checks, whatever is asked of them -/
theorem kinN_ok {K : PySem.W.Frag} {C : Addr} (h : kinNB K C = true) (d : PyData) : PySem.W.kitOne K (.type (tyN d)) (.ref C) = some false := by
  have h2 : ∀ t ∈ tyL, PySem.W.kitOne K (.type t) (.ref C) = some false := fun t m => of_decide_eq_true (List.all_eq_true.mp h t m)
  cases d <;> exact h2 _ (by simp [tyL, tyN])
theorem rp_sm {K : PySem.W.Frag} {H H' : Hp} {v : V} {d : PyData} (s : Same H H') (h : Rp K H v d) : Rp K H' v d := by
  rcases h with h | ⟨a, kvs, ds, e, h1, h2, h3⟩
  · exact .inl (dp_same s _ h)
  · exact .inr ⟨a, kvs, ds, e, s _ _ h1, h2, h3⟩
theorem rp_dp {K : PySem.W.Frag} {H : Hp} {v : V} {d : PyData} (h : Rp K H v d) (n : ∀ ds, d ≠ .dict ds) : Dp K H v d := by
  rcases h with h | ⟨a, kvs, ds, e, h1, h2, h3⟩
  · exact h
  · exact absurd h3 (n _)
/-- a place of the program -/
def plB (ps : List Str) : PyData → Bool
  | .str z => ps.contains z
  | _ => false
theorem ix_is {m : Nat} {d : PyData} (h : ixB m d = true) : ∃ i : Nat, d = .int i ∧ i < m := by
  cases d with
  | int i =>
    obtain ⟨z1, z2⟩ := Bool.and_eq_true_iff.mp h
    have h1 := of_decide_eq_true z1
    have h2 := of_decide_eq_true z2
    obtain ⟨n, rfl⟩ := Int.eq_ofNat_of_zero_le h1
    exact ⟨n, rfl, by omega⟩
  | bool b => cases h
  | none => cases h
  | str z => cases h
  | list ds => cases h
  | tuple ds => cases h
  | dict ds => cases h
theorem pl_is {ps : List Str} {d : PyData} (h : plB ps d = true) : ∃ z, d = .str z ∧ z ∈ ps := by
  cases d with
  | str z => exact ⟨z, rfl, List.contains_iff_mem.mp h⟩
  | int i => cases h
  | bool b => cases h
  | none => cases h
  | list ds => cases h
  | tuple ds => cases h
  | dict ds => cases h
theorem all_int : ∀ {ds : List PyData}, ds.all intB = true → ∃ xs : List Int, ds = xs.map PyData.int
  | [], _ => ⟨[], rfl⟩
  | d :: ds, h => by
    rw [List.all_cons, Bool.and_eq_true] at h
    obtain ⟨xs, rfl⟩ := all_int h.2
    cases d with
    | int i => exact ⟨i :: xs, rfl⟩
    | bool b => exact absurd h.1 (by intro z; cases z)
    | none => exact absurd h.1 (by intro z; cases z)
    | str z => exact absurd h.1 (by intro z; cases z)
    | list ds => exact absurd h.1 (by intro z; cases z)
    | tuple ds => exact absurd h.1 (by intro z; cases z)
    | dict ds => exact absurd h.1 (by intro z; cases z)
theorem ints_is {m : Nat} {d : PyData} (h : intsB m d = true) : ∃ xs : List Int, d = fD xs ∧ xs.length = m := by
  cases d with
  | tuple ds =>
    have h2 : (decide (ds.length = m) && ds.all intB) = true := h
    obtain ⟨z1, z2⟩ := Bool.and_eq_true_iff.mp h2
    obtain ⟨xs, rfl⟩ := all_int z2
    have z3 := of_decide_eq_true z1
    rw [List.length_map] at z3
    exact ⟨xs, rfl, z3⟩
  | str z => cases h
  | int i => cases h
  | bool b => cases h
  | none => cases h
  | list ds => cases h
  | dict ds => cases h
section
variable {P : Program} {w : World} {K : PySem.W.Frag} {mg : Str → Option Value} {base : Heap} {f C : Addr} {fd : FuncData}
/-- an error with this value goes out -/
abbrev Out (E : XK) (H : Hp) (CE : Addr) (v : V) : Prop := ∀ H1 dd, Same H H1 → H1 dd = none → E (.ref CE) (some dd) (upd H1 dd (.xd [("given", v)]))
def spCgX (K : PySem.W.Frag) (C CN : Addr) : Sp := fun vs H Q E => ∃ v, vs = [v] ∧ ((∃ (p : Addr) (ns : List Str) (ss : List (Str × List Int)) (as : List Arm), v = .ref p ∧ ProgAt K C H p ns ss as ∧ Q .non H) ∨ ∃ d, Rp K H v d ∧ Out E H CN v)
theorem ok_cgX {CN WN fN : Addr} (F : FnP K "check_program" sCg f fd) (T : Mo mg) (X : Txt K mg C) (N : KinP K C) (NN : ∀ d : PyData, PySem.W.kitOne K (.type (tyN d)) (.ref C) = some false) (XE : ErrK P K mg "NotProgram" CN WN fN "given") : FnOk P w K mg base (L2.CX P w) 3 f fd ["program"] (spCgX K C CN) := by
  refine okX F scCg (fun vs H Q E h => ?_) (fun cdv A outer s H vs Q E hr h => ?_)
  · obtain ⟨v, rfl, _⟩ := h
    rfl
  · obtain ⟨v, rfl, h⟩ := h
    refine ⟨_, pss_one (ps_if (pt_not (pt_val (pe_callB call_isi (by rfl) T.isi boot_isinstance (pa_cons (pv 0) (pa_cons (pe_glob (v := .ref C) (by rfl) X.g rfl) pa_nil)))))
      (pss_one (ps_raise rfl (takes_of rfl rfl rfl rfl) (pmk_err rootV XE.e (raises_own XE.sub XE.ty) hr XE.g (by rfl) (pv 0)))) pss_nil), ?_⟩
    rcases h with ⟨p, ns, ss, as, rfl, ⟨dx, a1, b1, c1, d1, hp, _⟩, k⟩ | ⟨d, hd, k⟩
    · exact ⟨_, rfl, .ref p, .ref C, .ref C, .ref C, true, rfl, .own C, .base (.ins hp X.cl N.ha N.hn N.ht N.hm), N.own, _, rfl, iteF k⟩
    · exact ⟨_, rfl, v, .ref C, _, .ref C, false, rfl, .own C, rp_ty hd, NN d, _, rfl, iteT ⟨_, rfl, fun dd nd => k H dd (Same.refl H) nd⟩⟩
def spClX (K : PySem.W.Frag) (C CE : Addr) : Sp := fun vs H Q E => ∃ (p : Addr) (v : V) (d : PyData) (ns : List Str) (ss : List (Str × List Int)) (as : List Arm), vs = [.ref p, v] ∧ ProgAt K C H p ns ss as ∧ OkP ns ss as ∧ Rp K H v d ∧ (plB (placesS ss as) d = true → Q .non H) ∧ (plB (placesS ss as) d = false → Out E H CE v)
theorem ok_clX {CE WE fE p5 g5 : Addr} {d5 : FuncData} (F : FnP K "check_place" sCl f fd) (T : Mo mg) (X : Txt K mg C) (P5 : PropOf K C "places" p5 g5) (F5 : FunP K "places" "Program.places" sGp g5 d5) (XE : ErrK P K mg "InvalidPlace" CE WE fE "given") : FnOk P w K mg base (L2.CX P w) 4 f fd ["program", "place"] (spClX K C CE) := by
  have H5 : FnOk P w K mg base CX0 1 g5 d5 ["self"] (spGet K C fun ns ss as v H => ∃ d, v = .ref d ∧ SqT K H d ((placesS ss as).map V.str)) := ok_gplaces F5 X
  have b5 : Binds K d5 ["self"] [] := F5.bindsN fun _ _ _ _ _ _ us hl => match us, hl with | [_], _ => rfl
  refine okX F scCl (fun vs H Q E h => ?_) (fun cdv A outer s H vs Q E hr h => ?_)
  · obtain ⟨p, v, d, ns, ss, as, rfl, _⟩ := h
    rfl
  · obtain ⟨p, v, d, ns, ss, as, rfl, hp, ok, hd, kY, kN⟩ := h
    have hr2 := hr.mono (show 2 ≤ 3 by decide)
    refine ⟨_, pss_one (ps_if (PW.pt (pw_or (pt_not (pt_val (pe_callB (call_isD (T := "str")) (by rfl) T.isi boot_isinstance (pa_cons (pv 1) (pa_cons (pe_bltn (v := .ty "str") (by rfl) T.str (by decide +kernel) rfl) pa_nil)))))
      (pw_or1 (pt_cmpR (r := rIn K true) op_notIn_seq (pv 1) (pe_prop (pv 0) X.cl P5 H5 hr2 b5 .nil pass0 (by rfl)) (by rfl)))))
      (pss_one (ps_raise rfl (takes_of rfl rfl rfl rfl) (pmk_err rootV XE.e (raises_own XE.sub XE.ty) hr2 XE.g (by rfl) (pv 1)))) pss_nil), ?_⟩
    obtain ⟨dx, _, _, _, _, hx, _⟩ := id hp
    refine ⟨_, rfl, _, d, _, rfl, hd, kit_str _, _, rfl, ?_⟩
    have bad : plB (placesS ss as) d = false → Out E H CE v := kN
    cases d with
    | str z =>
      cases (rp_dp hd fun _ q => nomatch q)
      refine iteF ?_
      refine ⟨_, rfl, _, rfl, p, dx, _, rfl, hx, p, ns, ss, as, rfl, hp, ok, fun v1 h1 => ?_⟩
      obtain ⟨d, rfl, hd⟩ := h1
      refine ⟨d, _, rfl, .inr hd, rfl, flat_strs _, _, rfl, ?_⟩
      cases hc : (placesS ss as).contains z with
      | true => exact iteBF (by rw [if_pos rfl, inV_strs, hc]; rfl) (kY hc)
      | false => exact iteBT (by rw [if_pos rfl, inV_strs, hc]; rfl) ⟨_, rfl, fun dd nd => bad hc H dd (Same.refl H) nd⟩
    | int i => exact iteT ⟨_, rfl, fun dd nd => bad rfl H dd (Same.refl H) nd⟩
    | bool b => exact iteT ⟨_, rfl, fun dd nd => bad rfl H dd (Same.refl H) nd⟩
    | none => exact iteT ⟨_, rfl, fun dd nd => bad rfl H dd (Same.refl H) nd⟩
    | list ds => exact iteT ⟨_, rfl, fun dd nd => bad rfl H dd (Same.refl H) nd⟩
    | tuple ds => exact iteT ⟨_, rfl, fun dd nd => bad rfl H dd (Same.refl H) nd⟩
    | dict ds => exact iteT ⟨_, rfl, fun dd nd => bad rfl H dd (Same.refl H) nd⟩
def spCoX (K : PySem.W.Frag) (C CE : Addr) : Sp := fun vs H Q E => ∃ (p : Addr) (v : V) (d : PyData) (ns : List Str) (ss : List (Str × List Int)) (as : List Arm), vs = [.ref p, v] ∧ ProgAt K C H p ns ss as ∧ OkP ns ss as ∧ Rp K H v d ∧ okD d = true ∧ (intsB ns.length d = true → ∀ H', Same H H' → Q .non H') ∧ (intsB ns.length d = false → Out E H CE v)
theorem ok_coX {CE WE fE fY p1 g1 : Addr} {dY d1 : FuncData} (F : FnP K "check_point" sCo f fd) (T : Mo mg) (X : Txt K mg C) (FY : FnP K "are_integers" sInts fY dY) (gY : mg "are_integers" = some (.ref fY)) (GY : FnOk P w K mg base CX0 2 fY dY ["value", "many"] (spJ2 K intsB))
    (P1 : PropOf K C "names" p1 g1) (F1 : FunP K "names" "Program.names" sGn g1 d1) (XE : ErrK P K mg "InvalidPoint" CE WE fE "given") : FnOk P w K mg base (L2.CX P w) 4 f fd ["program", "point"] (spCoX K C CE) := by
  have H1 : FnOk P w K mg base CX0 1 g1 d1 ["self"] (spGet K C fun ns ss as v H => Dp K H v (namesD ns)) := ok_gnames F1 X
  have b1 : Binds K d1 ["self"] [] := F1.bindsN fun _ _ _ _ _ _ us hl => match us, hl with | [_], _ => rfl
  have bY : Binds K dY ["value", "many"] [] := FY.bindsN fun _ _ _ _ _ _ us hl => match us, hl with | [_, _], _ => rfl
  refine okX F scCo (fun vs H Q E h => ?_) (fun cdv A outer s H vs Q E hr h => ?_)
  · obtain ⟨p, v, d, ns, ss, as, rfl, _⟩ := h
    rfl
  · obtain ⟨p, v, d, ns, ss, as, rfl, hp, ok, hd, ho, kY, kN⟩ := h
    have hr2 := hr.mono (show 2 ≤ 3 by decide)
    refine ⟨_, pss_one (ps_if (pt_not (pt_val (pe_call GY hr2 (by rfl) gY FY.kp bY .nil pass0 (pa_cons (pv 1) (pa_cons (pe_callB call_len (by rfl) T.len PySem.boot_len (pa_cons (pe_prop (pv 0) X.cl P1 H1 hr2 b1 .nil pass0 (by rfl)) pa_nil)) pa_nil)))))
      (pss_one (ps_raise rfl (takes_of rfl rfl rfl rfl) (pmk_err rootV XE.e (raises_own XE.sub XE.ty) hr2 XE.g (by rfl) (pv 1)))) pss_nil), ?_⟩
    obtain ⟨dx, _, _, _, _, hx, _⟩ := id hp
    refine ⟨_, rfl, _, rfl, p, dx, _, rfl, hx, p, ns, ss, as, rfl, hp, ok, fun v1 h1 => ?_⟩
    obtain ⟨c, cs, rfl, hc, hcs⟩ := rp_tup (.inl h1)
    have lc := dp_len hcs
    rw [List.length_map] at lc
    refine ⟨_, _, rfl, .inr ⟨_, hc, rfl⟩, ?_⟩
    rw [lc]
    refine ⟨v, d, ns.length, rfl, hd, ho, fun H' s => ⟨_, rfl, ?_⟩⟩
    cases hb : intsB ns.length d with
    | true => exact iteF (kY hb H' s)
    | false => exact iteT ⟨_, rfl, fun dd nd => kN hb H' dd s nd⟩
end
end Pg
set_option Elab.async false
set_option linter.all false
set_option maxRecDepth 100000
set_option maxHeartbeats 8000000
namespace L2
open PySem PySem.Spec PyProof.Rows
/-! a list beside the empty list -/
def rNeE (K : PySem.W.Frag) : R2 := fun x y H Q => ∃ a b xs, x = .ref a ∧ y = .ref b ∧ SqL K H a xs ∧ SqL K H b [] ∧ Q (.bl (!xs.isEmpty)) H
section
variable {X : Cx}
theorem op_neE (hu : X.A.units + 64 < cLine) : OpR X (compareOp .NotEq) (rNeE X.K) := by
  intro pins s σ H x y v u Q I rx ry h
  obtain ⟨a, b, xs, rfl, rfl, ha, hb, q⟩ := h
  cases xs with
  | nil =>
    exact op_neD hu pins s σ H _ _ _ _ Q I rx ry ⟨.list [], .list [], .lst ha .nil, .lst hb .nil, by decide +kernel, by decide +kernel, q⟩
  | cons z zs =>
    cases rx
    cases ry
    obtain ⟨ia, ra, ⟨oa, na, ha1, ha2, _, ha3⟩, _⟩ := I.list ha
    obtain ⟨ib, rb, ⟨ob, nb, hb1, hb2, _, hb3⟩, _⟩ := I.list hb
    cases rb
    cases ra with
    | cons r1 r2 =>
    exact EqBoolInt.of_rcne (SeqAt.RcNeAt.lists_lengths ⟨oa, ha1, ha2, na, ha3⟩ ⟨ob, hb1, hb2, nb, hb3⟩ (by simp) (by omega)) ⟨.bl true, H, I, rfl, q⟩
end
end L2
namespace K5
open PySem PySem.Spec PyProof.Rows L2 Gd Rl Nu TL Sz
open Pg (fD top okD okAll Bt FnP Mo Arm armD namesD saysD armsD placesS spLl OkP plB ixB intB intsB spJ sSp nLl)
abbrev sWhole : Stmt := top 70
abbrev sDue : Stmt := top 80
/-- the error that is due, by name and value -/
def dueS (n : Nat) (ps : List Str) (dH dS : PyData) : Option (Str × PyData) :=
  match plB ps dH with
  | false => some ("InvalidPlace", dH)
  | true => match intsB n dS with
    | false => some ("InvalidPoint", dS)
    | true => none
section
variable {P : Program} {w : World} {K : PySem.W.Frag} {mg : Str → Option Value} {base : Heap} {f : Addr} {fd : FuncData}
theorem scWhole : FnScope ["_law_value"] ["_law_value"] (defScope sWhole) := ⟨rfl, rfl, rfl, by decide +kernel, rfl, by decide +kernel, by decide +kernel⟩
def spW (K : PySem.W.Frag) : Sp := fun vs H Q _ => ∃ (v : V) (d : PyData), vs = [v] ∧ Rp K H v d ∧ Q (.bl (intB d)) H
theorem ok_whole (F : FnP K "_law_is_whole" sWhole f fd) (T : Mo mg) : FnOk P w K mg base CX0 1 f fd ["_law_value"] (spW K) := by
  refine F.ok scWhole (fun vs H Q E h => ?_) (fun cdv A outer s H vs Q E hr h => ?_)
  · obtain ⟨v, d, rfl, _⟩ := h
    rfl
  · obtain ⟨v, d, rfl, hd, k0⟩ := h
    refine ⟨_, PSs.nox <| pss_one (ps_ret (pe_and (pe_callB (call_isD (T := "int")) (by rfl) T.isi boot_isinstance (pa_cons (pv 0) (pa_cons (pe_bltn (v := .ty "int") (by rfl) T.int (by decide +kernel) rfl) pa_nil)))
      (pe_one (pe_not (pe_callB (call_isD (T := "bool")) (by rfl) T.isi boot_isinstance (pa_cons (pv 0) (pa_cons (pe_bltn (v := .ty "bool") (by rfl) T.bool (by decide +kernel) rfl) pa_nil))))))), ?_⟩
    refine ⟨_, rfl, v, d, _, rfl, hd, kit_int d, _, rfl, ?_⟩
    cases d with
    | int i => exact ⟨_, rfl, v, _, _, rfl, hd, kit_bool _, _, rfl, k0⟩
    | bool b => exact ⟨_, rfl, v, _, _, rfl, hd, kit_bool _, _, rfl, k0⟩
    | none => exact k0
    | str z => exact k0
    | list ds => exact k0
    | tuple ds => exact k0
    | dict ds => exact k0
/-- what is due, as a list -/
def DueAt (H : Hp) (l : Addr) : Option (Str × PyData) → Prop
  | none => H l = some (.lst [])
  | some e => H l = some (.lst [.str e.1, .str e.2.shown])
def spDue (K : PySem.W.Frag) : Sp := fun vs H Q _ => ∃ (r : Addr) (u v z vH vS : V) (ns : List Str) (ss : List (Str × List Int)) (as : List Arm) (dH dS : PyData), vs = [.ref r, vH, vS] ∧ H r = some (.lst [u, v, z]) ∧ Dp K H u (namesD ns) ∧ Dp K H v (saysD ss) ∧ Dp K H z (armsD as) ∧ OkP ns ss as ∧
  Rp K H vH dH ∧ OkV dH ∧ Rp K H vS dS ∧ OkV dS ∧ ∀ l H', Same H H' → DueAt H' l (dueS ns.length (placesS ss as) dH dS) → Q (.ref l) H'
abbrev nDue : List Str := ["_law_parts", "_law_here", "_law_spot_here", "_law_k"]
theorem scDue : FnScope nDue ["_law_parts", "_law_here", "_law_spot_here"] (defScope sDue) := ⟨rfl, rfl, rfl, by decide +kernel, rfl, by decide +kernel, by decide +kernel⟩
theorem ok_due {fW fP : Addr} {dW dP : FuncData} (F : FnP K "_law_due" sDue f fd) (T : Mo mg) (U : mg "repr" = none) (FW : FnP K "_law_is_whole" sWhole fW dW) (gW : mg "_law_is_whole" = some (.ref fW)) (FP : FnP K "_law_spots" sSp fP dP) (gP : mg "_law_spots" = some (.ref fP)) : FnG P w K mg base 2 f fd ["_law_parts", "_law_here", "_law_spot_here"] (spDue K) := by
  have GW : FnOk P w K mg base CX0 1 fW dW ["_law_value"] (spW K) := ok_whole FW T
  have bW : Binds K dW ["_law_value"] [] := FW.bindsN fun _ _ _ _ _ _ us hl => match us, hl with | [_], _ => rfl
  have GP : FnOk P w K mg base CX0 1 fP dP ["_law_parts"] (spLl K fun ns ss as y H' => ∃ q, y = .ref q ∧ SqT K H' q ((placesS ss as).map V.str)) := Pg.ok_sp FP T
  have bP : Binds K dP ["_law_parts"] [] := FP.bindsN fun _ _ _ _ _ _ us hl => match us, hl with | [_], _ => rfl
  refine okG F scDue (fun vs H Q E h => ?_) (fun cdv A outer s H vs Q E hgd hr h => ?_)
  · obtain ⟨r, u, v, z, vH, vS, ns, ss, as, dH, dS, rfl, _⟩ := h
    rfl
  · obtain ⟨r, u, v, z, vH, vS, ns, ss, as, dH, dS, rfl, er, hu, hv, hz, ok, hq, oQ, hS, oS, kU⟩ := h
    have kN : dueS ns.length (placesS ss as) dH dS = none → ∀ l H', Same H H' → H' l = some (.lst []) → Q (.ref l) H' := fun e l H' s hl => kU l H' s (by rw [e]; exact hl)
    have kS : ∀ e, dueS ns.length (placesS ss as) dH dS = some e → ∀ l H', Same H H' → H' l = some (.lst [.str e.1, .str e.2.shown]) → Q (.ref l) H' := fun q e l H' s hl => kU l H' s (by rw [e]; exact hl)
    refine ⟨_, PSs.nox <| pss_cons (ps_if (PW.pt (pw_or (pt_not (pt_val (pe_callB (call_isD (T := "str")) (by rfl) T.isi boot_isinstance (pa_cons (pv 1) (pa_cons (pe_bltn (v := .ty "str") (by rfl) T.str (by decide +kernel) rfl) pa_nil)))))
          (pw_or1 (pt_cmpR (r := rIn K true) op_notIn_seq (pv 1) (pe_call GP hr (by rfl) gP FP.kp bP .nil pass0 (pa_cons (pv 0) pa_nil)) (by rfl)))))
        (pss_one (ps_ret (pe_lstR (pa_cons pe_str (pa_cons (pe_callB (call_repr hgd hr.units) (by rfl) U boot_repr (pa_cons (pv 1) pa_nil)) pa_nil))))) pss_nil)
      <| pss_cons (ps_if (PW.pt (pw_or (pt_not (pt_val (pe_callB (call_isD (T := "tuple")) (by rfl) T.isi boot_isinstance (pa_cons (pv 2) (pa_cons (pe_bltn (v := .ty "tuple") (by rfl) T.tuple (by decide +kernel) rfl) pa_nil)))))
          (pw_or (pt_cmpR op_ne (pe_callB call_len (by rfl) T.len PySem.boot_len (pa_cons (pv 2) pa_nil)) (pe_callB call_len (by rfl) T.len PySem.boot_len (pa_cons (pe_ix (r := rIxL K) ix_list (pv 0) pe_int (fun _ _ => rfl)) pa_nil)) (nomark _))
          (pw_or1 (pt_cmpR (op_neE hr.units) (pe_lc (own := [("_law_k", 3)]) (g := gName 3) rfl scDue.nd (pi_tup (pv 2)) (blkOk_by (N := nDue) (sc := defScope sDue) (by decide +kernel)) (fun _ _ _ _ _ => pg_name (i := 3) scDue.nd rfl (Or.inl rfl))
              (fun _ _ _ _ _ => pts_one (pt_not (pt_val (pe_call GW hr (by rfl) gW FW.kp bW .nil pass0 (pa_cons (pv 3) pa_nil))))) (fun _ _ _ _ _ => pv 3)) (pe_lstR pa_nil) (nomark _))))))
        (pss_one (ps_ret (pe_lstR (pa_cons pe_str (pa_cons (pe_callB (call_repr hgd hr.units) (by rfl) U boot_repr (pa_cons (pv 2) pa_nil)) pa_nil))))) pss_nil)
      <| pss_one (ps_ret (pe_lstR pa_nil)), ?_⟩
    have retH : plB (placesS ss as) dH = false → ∀ l H', Same H H' → H' l = some (.lst [.str "InvalidPlace", .str dH.shown]) → Q (.ref l) H' := fun hb => kS ("InvalidPlace", dH) (by unfold dueS; rw [hb])
    refine ⟨_, rfl, _, dH, _, rfl, hq, kit_str _, _, rfl, ?_⟩
    cases dH with
    | str z0 =>
      refine iteF ?_
      have hq3 := hq
      cases (Pg.rp_dp hq3 fun _ q => nomatch q)
      refine ⟨_, rfl, _, rfl, r, u, v, z, _, ns, ss, as, rfl, er, hu, hv, hz, ok.t, fun y HE sE hy => ?_⟩
      obtain ⟨qy, rfl, hy⟩ := hy
      refine ⟨qy, _, rfl, .inr hy, rfl, Pg.flat_strs _, _, rfl, ?_⟩
      cases hc : (placesS ss as).contains z0 with
      | false =>
        refine Pg.iteBT (by rw [if_pos rfl, Pg.inV_strs, hc]; rfl) ?_
        exact ⟨_, rfl, _, _, rfl, Pg.rp_sm sE hq, oQ.sh, Nat.le_trans oQ.dp (by decide), sz1000 oQ.len, (show 2 ≤ 1000 by decide), fun l1 H1 n1 => retH hc l1 H1 (sE.trans n1.2.2) n1.2.1⟩
      | true =>
        refine Pg.iteBF (by rw [if_pos rfl, Pg.inV_strs, hc]; rfl) ?_
        have hpl : plB (placesS ss as) (.str z0) = true := hc
        obtain ⟨ub, us, rfl, hub, hus⟩ := Pg.rp_tup (.inl hu)
        have lu := Pg.dp_len' hus
        rw [List.length_map] at lu
        have n3 := ok.n.three
        have retP : intsB ns.length dS = false → ∀ l H', Same H H' → H' l = some (.lst [.str "InvalidPoint", .str dS.shown]) → Q (.ref l) H' := fun hb => kS ("InvalidPoint", dS) (by unfold dueS; rw [hpl, hb])
        have retN : intsB ns.length dS = true → ∀ l H', Same H H' → H' l = some (.lst []) → Q (.ref l) H' := fun hb => kN (by unfold dueS; rw [hpl, hb])
        refine ⟨_, rfl, _, dS, _, rfl, Pg.rp_sm sE hS, kit_tuple _, _, rfl, ?_⟩
        cases dS with
        | tuple ds =>
          refine iteF ?_
          obtain ⟨sb, ws, rfl, hsb, hws⟩ := Pg.rp_tup (Pg.rp_sm sE hS)
          have lws := Pg.dp_len' hws
          refine ⟨_, rfl, _, _, rfl, .inr ⟨_, hsb, rfl⟩, _, rfl, r, _, 0, _, rfl, rfl, SqL.of (sE _ _ er), rfl, _, _, rfl, .inr ⟨_, Same.seqT sE hub, rfl⟩, rfl, _, rfl, ?_⟩
          rw [lws, lu]
          by_cases hL : ds.length = ns.length
          · refine iteNS (by rw [hL]) ?_
            refine ⟨_, rfl, _, rfl, ⟨_, hsb⟩, fun D nD => lc_tup (K := K) (a := sb) (xs := ws) (fun j H' => Same HE H' ∧ ∃ acc, H' D = some (.lst acc) ∧ acc.length ≤ j ∧ acc.isEmpty = (ds.take j).all intB) ⟨same_new nD, [], upd_same, Nat.le_refl _, rfl⟩ (fun j H' _ ⟨s2, _⟩ => Same.seqT s2 hsb) ?_ ?_⟩
            · rintro j x H2 ex ⟨s2, acc, hacc, hlen, hall⟩
              obtain ⟨d, ed, hd⟩ := dp_at hws ex
              have hj : j < ws.length := (List.getElem?_eq_some_iff.mp ex).1
              have et : (ds.take (j + 1)).all intB = ((ds.take j).all intB && intB d) := by
                rw [List.take_add_one, ed, List.all_append]
                simp
              refine ⟨rfl, _, rfl, x, d, rfl, .inl (dp_same s2 _ hd), ?_⟩
              refine ⟨_, rfl, ?_⟩
              cases hi : intB d with
              | true =>
                refine iteF ?_
                refine ⟨s2, acc, hacc, by omega, by rw [et, hi, Bool.and_true]; exact hall⟩
              | false =>
                refine iteT ?_
                refine ⟨_, rfl, acc, hacc, small1000 (by omega), fun q o e => ?_, acc ++ [x], upd_same, by rw [List.length_append]; exact Nat.succ_le_succ hlen, ?_⟩
                · rw [upd_ne (ne_of_none e nD)]
                  exact s2 _ _ e
                · rw [et, hi, Bool.and_false]
                  simp
            · rintro H2 ⟨s2, acc, hacc, hlen, hall⟩
              rw [show ds.take ws.length = ds from List.take_of_length_le (by omega)] at hall
              refine ⟨(show 0 ≤ 1000 by decide), fun l3 H3 n3' => ⟨D, l3, _, rfl, rfl, SqL.of (n3'.2.2 _ _ hacc), SqL.of n3'.2.1, _, rfl, ?_⟩⟩
              have s3 : Same H H3 := sE.trans (s2.trans n3'.2.2)
              have eI : intsB ns.length (.tuple ds) = acc.isEmpty := by
                show (decide (ds.length = ns.length) && ds.all intB) = _
                rw [decide_eq_true hL, hall]
                rfl
              cases hE : acc.isEmpty with
              | true =>
                refine iteF ?_
                exact ⟨(show 0 ≤ 1000 by decide), fun l4 H4 n4 => retN (eI.trans hE) l4 H4 (s3.trans n4.2.2) n4.2.1⟩
              | false =>
                refine iteT ?_
                exact ⟨_, rfl, _, _, rfl, Pg.rp_sm s3 hS, oS.sh, Nat.le_trans oS.dp (by decide), sz1000 oS.len, (show 2 ≤ 1000 by decide), fun l4 H4 n4 => retP (eI.trans hE) l4 H4 (s3.trans n4.2.2) n4.2.1⟩
          · have eI : intsB ns.length (.tuple ds) = false := by
              show (decide (ds.length = ns.length) && ds.all intB) = _
              rw [decide_eq_false hL]
              rfl
            refine Pg.iteNE (fun e => hL (by have := V.int.inj e; omega)) ?_
            exact ⟨_, rfl, _, _, rfl, Pg.rp_sm sE hS, oS.sh, Nat.le_trans oS.dp (by decide), sz1000 oS.len, (show 2 ≤ 1000 by decide), fun l4 H4 n4 => retP eI l4 H4 (sE.trans n4.2.2) n4.2.1⟩
        | int i => exact iteT ⟨_, rfl, _, _, rfl, Pg.rp_sm sE hS, oS.sh, Nat.le_trans oS.dp (by decide), sz1000 oS.len, (show 2 ≤ 1000 by decide), fun l4 H4 n4 => retP rfl l4 H4 (sE.trans n4.2.2) n4.2.1⟩
        | bool b => exact iteT ⟨_, rfl, _, _, rfl, Pg.rp_sm sE hS, oS.sh, Nat.le_trans oS.dp (by decide), sz1000 oS.len, (show 2 ≤ 1000 by decide), fun l4 H4 n4 => retP rfl l4 H4 (sE.trans n4.2.2) n4.2.1⟩
        | none => exact iteT ⟨_, rfl, _, _, rfl, Pg.rp_sm sE hS, oS.sh, Nat.le_trans oS.dp (by decide), sz1000 oS.len, (show 2 ≤ 1000 by decide), fun l4 H4 n4 => retP rfl l4 H4 (sE.trans n4.2.2) n4.2.1⟩
        | str z => exact iteT ⟨_, rfl, _, _, rfl, Pg.rp_sm sE hS, oS.sh, Nat.le_trans oS.dp (by decide), sz1000 oS.len, (show 2 ≤ 1000 by decide), fun l4 H4 n4 => retP rfl l4 H4 (sE.trans n4.2.2) n4.2.1⟩
        | list ds => exact iteT ⟨_, rfl, _, _, rfl, Pg.rp_sm sE hS, oS.sh, Nat.le_trans oS.dp (by decide), sz1000 oS.len, (show 2 ≤ 1000 by decide), fun l4 H4 n4 => retP rfl l4 H4 (sE.trans n4.2.2) n4.2.1⟩
        | dict ds => exact iteT ⟨_, rfl, _, _, rfl, Pg.rp_sm sE hS, oS.sh, Nat.le_trans oS.dp (by decide), sz1000 oS.len, (show 2 ≤ 1000 by decide), fun l4 H4 n4 => retP rfl l4 H4 (sE.trans n4.2.2) n4.2.1⟩
    | int i => exact iteT ⟨_, rfl, _, _, rfl, hq, oQ.sh, Nat.le_trans oQ.dp (by decide), sz1000 oQ.len, (show 2 ≤ 1000 by decide), fun l1 H1 n1 => retH rfl l1 H1 n1.2.2 n1.2.1⟩
    | bool b => exact iteT ⟨_, rfl, _, _, rfl, hq, oQ.sh, Nat.le_trans oQ.dp (by decide), sz1000 oQ.len, (show 2 ≤ 1000 by decide), fun l1 H1 n1 => retH rfl l1 H1 n1.2.2 n1.2.1⟩
    | none => exact iteT ⟨_, rfl, _, _, rfl, hq, oQ.sh, Nat.le_trans oQ.dp (by decide), sz1000 oQ.len, (show 2 ≤ 1000 by decide), fun l1 H1 n1 => retH rfl l1 H1 n1.2.2 n1.2.1⟩
    | list ds => exact iteT ⟨_, rfl, _, _, rfl, hq, oQ.sh, Nat.le_trans oQ.dp (by decide), sz1000 oQ.len, (show 2 ≤ 1000 by decide), fun l1 H1 n1 => retH rfl l1 H1 n1.2.2 n1.2.1⟩
    | tuple ds => exact iteT ⟨_, rfl, _, _, rfl, hq, oQ.sh, Nat.le_trans oQ.dp (by decide), sz1000 oQ.len, (show 2 ≤ 1000 by decide), fun l1 H1 n1 => retH rfl l1 H1 n1.2.2 n1.2.1⟩
    | dict ds => exact iteT ⟨_, rfl, _, _, rfl, hq, oQ.sh, Nat.le_trans oQ.dp (by decide), sz1000 oQ.len, (show 2 ≤ 1000 by decide), fun l1 H1 n1 => retH rfl l1 H1 n1.2.2 n1.2.1⟩
end
end K5
set_option Elab.async false
set_option linter.all false
set_option maxRecDepth 100000
set_option maxHeartbeats 8000000
namespace Pg
open PySem PySem.Spec PyProof.Rows L2 Gd Rl Te Nu TL Hy Fx
section
variable {P : Program} {w : World} {K : PySem.W.Frag} {mg : Str → Option Value} {base : Heap} {f C : Addr} {fd : FuncData}
/-! ### whether a branch can be taken -/
def spFi (K : PySem.W.Frag) : Sp := fun vs H Q _ => ∃ (u v : V) (z : Str) (a : Arm) (xs : List Int), vs = [u, .str z, v] ∧ Dp K H u (armD a) ∧ Dp K H v (fD xs) ∧ ArmOk xs.length a ∧ xs.length ≤ 900 ∧ Bt xs ∧ ∀ H', Same H H' → Q (.bl (fitsS a z xs)) H'
abbrev nFi : List Str := ["branch", "place", "point", "test"]
theorem scFi : FnScope nFi ["branch", "place", "point"] (defScope sFi) := ⟨rfl, rfl, rfl, by decide +kernel, rfl, by decide +kernel, by decide +kernel⟩
theorem arm_at {H : Hp} {u : V} {a : Arm} (h : Dp K H u (armD a)) : ∃ (p : Addr) (t c : V), u = .ref p ∧ SqT K H p [.str a.src, .str a.tgt, t, c] ∧ Dp K H t (.tuple (a.tests.map fD)) ∧ Dp K H c (.tuple (a.turns.map fD)) := by
  obtain ⟨p, zs, rfl, hp, hz⟩ := rp_tup (.inl h)
  cases hz with
  | cons z0 h1 =>
  cases h1 with
  | cons z1 h2 =>
  cases h2 with
  | cons z2 h3 =>
  cases h3 with
  | cons z3 h4 =>
  cases h4
  cases z0
  cases z1
  exact ⟨p, _, _, rfl, hp, z2, z3⟩
theorem ok_fi {fV fW : Addr} {dV dW : FuncData} (F : FnP K "fits" sFi f fd) (T : Mo mg) (M : MoW mg) (FV : FnP K "value_at" sVal fV dV) (gV : mg "value_at" = some (.ref fV)) (FW : FnP K "weighed" sWei fW dW) (gW : mg "weighed" = some (.ref fW)) : FnOk P w K mg base CX0 3 f fd ["branch", "place", "point"] (spFi K) := by
  have GV : FnOk P w K mg base CX0 2 fV dV ["form", "point"] (spVal K) := ok_val FV M FW gW
  have bV : Binds K dV ["form", "point"] [] := FV.bindsN fun _ _ _ _ _ _ us hl => match us, hl with | [_, _], _ => rfl
  refine F.ok scFi (fun vs H Q E h => ?_) (fun cdv A outer s H vs Q E hr h => ?_)
  · obtain ⟨u, v, z, a, xs, rfl, _⟩ := h
    rfl
  · obtain ⟨u, v, z, a, xs, rfl, hu, hv, ao, h9, bx, k⟩ := h
    refine ⟨_, PSs.nox <| pss_one (ps_ret (pe_and (pe_cmpR op_eq (pe_ix (r := rIxT K) ix_tup (pv 0) pe_int (fun _ _ => rfl)) (pv 1) (nomark _))
      (pe_one (pe_callB (cr_all rfl) (by rfl) T.all (by decide +kernel) (pa_cons (pe_lc (own := [("test", 3)]) (g := gName 3) (tt := tYes) rfl scFi.nd (pi_tup (pe_ix (r := rIxT K) ix_tup (pv 0) pe_int (fun _ _ => rfl))) (blkOk_by (N := nFi) (sc := defScope sFi) (by decide +kernel)) (fun _ _ _ _ _ => pg_name (i := 3) scFi.nd rfl (Or.inl rfl)) (fun _ _ _ _ _ => pts_nil)
          (fun _ _ _ _ _ => pe_cmpR op_ge (pe_call GV hr (by rfl) gV FV.kp bV .nil pass0 (pa_cons (pv 3) (pa_cons (pv 2) pa_nil))) pe_int (nomark _))) pa_nil))))), ?_⟩
    obtain ⟨p, t, c, rfl, hp, ht, hc⟩ := arm_at hu
    obtain ⟨tt, ts, rfl, htt, hts⟩ := rp_tup (.inl ht)
    have lt := dp_len hts
    rw [List.length_map] at lt
    have t3 := ao.t3
    refine ⟨_, rfl, p, _, 0, _, rfl, rfl, hp, rfl, _, rfl, rfl, _, rfl, ?_⟩
    by_cases h1 : V.str a.src = V.str z
    · rw [decide_eq_true h1]
      refine ⟨_, rfl, p, _, 2, _, rfl, rfl, hp, rfl, tt, rfl, ⟨_, htt⟩, lcR (walk_tup (xs := ts)) (n1 := by omega) (fun H' s' => Same.seqT s' htt) (fun i y _ => y = .bl (decide (valS (a.tests.getD i []) xs ≥ 0))) (fun _ _ _ _ _ e => e) ?_ ?_⟩
      · rintro D acc i x Ha Hb K2 hi s nD hD ⟨rfl, ex⟩ kk
        obtain ⟨g, eg, hg⟩ := map_at hts ex
        obtain ⟨gl, gb⟩ := forms_at ao.ts (List.mem_of_getElem? eg)
        have e2 : a.tests.getD i [] = g := by
          rw [List.getD_eq_getElem?_getD, eg]
          rfl
        refine ⟨rfl, _, rfl, _, rfl, _, _, g, xs, rfl, dp_same s _ hg, dp_same s _ hv, gl, h9, gb, bx, fun H' s' => ?_⟩
        exact ⟨_, _, rfl, rfl, kk _ _ s' (by rw [e2])⟩
      · rintro D Hb ys nw hlen he
        have ey : ys = ((List.range a.tests.length).map fun i => decide (valS (a.tests.getD i []) xs ≥ 0)).map V.bl := by
          rw [List.map_map]
          exact list_of (by rw [hlen, lt]) he
        refine ⟨D, _, rfl, by rw [← ey]; exact SqL.of nw.2.1, ?_⟩
        have e3 : (((List.range a.tests.length).map fun i => decide (valS (a.tests.getD i []) xs ≥ 0)).all id) = a.tests.all fun t => decide (valS t xs ≥ 0) := by
          have e : ((List.range a.tests.length).map fun i => decide (valS (a.tests.getD i []) xs ≥ 0)) = a.tests.map fun t => decide (valS t xs ≥ 0) := by
            apply List.ext_getElem
            · simp
            · intro i h1 h2
              simp only [List.length_map, List.length_range] at h1
              simp [List.getD_eq_getElem?_getD, List.getElem?_eq_getElem h1]
          rw [e, List.all_map]
          rfl
        have k0 := k Hb nw.2.2
        unfold fitsS at k0
        rw [decide_eq_true h1, Bool.true_and] at k0
        rw [e3]
        exact k0
    · rw [decide_eq_false h1]
      have k0 := k H (Same.refl H)
      unfold fitsS at k0
      rw [decide_eq_false h1, Bool.false_and] at k0
      exact k0
/-! ### the state behind -/
def spBe (K : PySem.W.Frag) : Sp := fun vs H Q _ => ∃ (u v : V) (a : Arm) (xs : List Int), vs = [u, v] ∧ Dp K H u (armD a) ∧ Dp K H v (fD xs) ∧ ArmOk xs.length a ∧ xs.length ≤ 900 ∧ Bt xs ∧ ∀ q r H', Same H H' → SqT K H' q [.str a.tgt, r] → Dp K H' r (fD (turnS a xs)) → Q (.ref q) H'
abbrev nBe : List Str := ["branch", "point", "change"]
theorem scBe : FnScope nBe ["branch", "point"] (defScope sBe) := ⟨rfl, rfl, rfl, by decide +kernel, rfl, by decide +kernel, by decide +kernel⟩
theorem ok_be {fV fW : Addr} {dV dW : FuncData} (F : FnP K "state_behind" sBe f fd) (T : Mo mg) (M : MoW mg) (FV : FnP K "value_at" sVal fV dV) (gV : mg "value_at" = some (.ref fV)) (FW : FnP K "weighed" sWei fW dW) (gW : mg "weighed" = some (.ref fW)) : FnOk P w K mg base CX0 3 f fd ["branch", "point"] (spBe K) := by
  have GV : FnOk P w K mg base CX0 2 fV dV ["form", "point"] (spVal K) := ok_val FV M FW gW
  have bV : Binds K dV ["form", "point"] [] := FV.bindsN fun _ _ _ _ _ _ us hl => match us, hl with | [_, _], _ => rfl
  refine F.ok scBe (fun vs H Q E h => ?_) (fun cdv A outer s H vs Q E hr h => ?_)
  · obtain ⟨u, v, a, xs, rfl, _⟩ := h
    rfl
  · obtain ⟨u, v, a, xs, rfl, hu, hv, ao, h9, bx, k⟩ := h
    refine ⟨_, PSs.nox <| pss_one (ps_ret (pe_tupR (pa_cons (pe_ix (r := rIxT K) ix_tup (pv 0) pe_int (fun _ _ => rfl)) (pa_cons (pe_callTy call_tuple_of (by rfl) T.tuple (by decide +kernel) (pa_cons (pe_lc (own := [("change", 2)]) (g := gName 2) (tt := tYes) rfl scBe.nd (pi_tup (pe_ix (r := rIxT K) ix_tup (pv 0) pe_int (fun _ _ => rfl))) (blkOk_by (N := nBe) (sc := defScope sBe) (by decide +kernel)) (fun _ _ _ _ _ => pg_name (i := 2) scBe.nd rfl (Or.inl rfl)) (fun _ _ _ _ _ => pts_nil)
          (fun _ _ _ _ _ => pe_call GV hr (by rfl) gV FV.kp bV .nil pass0 (pa_cons (pv 2) (pa_cons (pv 1) pa_nil)))) pa_nil)) pa_nil)))), ?_⟩
    obtain ⟨p, t, c, rfl, hp, ht, hc⟩ := arm_at hu
    obtain ⟨tt, ts, rfl, htt, hts⟩ := rp_tup (.inl hc)
    have lt := dp_len hts
    rw [List.length_map] at lt
    have cm := ao.cm
    refine ⟨_, rfl, p, _, 1, _, rfl, rfl, hp, rfl, _, rfl, p, _, 3, _, rfl, rfl, hp, rfl, tt, rfl, ⟨_, htt⟩, lcR (walk_tup (xs := ts)) (n1 := by omega) (fun H' s' => Same.seqT s' htt) (fun i y _ => y = .int (valS (a.turns.getD i []) xs)) (fun _ _ _ _ _ e => e) ?_ ?_⟩
    · rintro D acc i x Ha Hb K2 hi s nD hD ⟨rfl, ex⟩ kk
      obtain ⟨g, eg, hg⟩ := map_at hts ex
      obtain ⟨gl, gb⟩ := forms_at ao.cs (List.mem_of_getElem? eg)
      have e2 : a.turns.getD i [] = g := by
        rw [List.getD_eq_getElem?_getD, eg]
        rfl
      exact ⟨rfl, _, rfl, _, rfl, _, _, g, xs, rfl, dp_same s _ hg, dp_same s _ hv, gl, h9, gb, bx, fun H' s' => kk _ _ s' (by rw [e2])⟩
    · rintro D Hb ys nw hlen he
      have ey : ys = (turnS a xs).map V.int := by
        have : ys = ((List.range a.turns.length).map fun i => valS (a.turns.getD i []) xs).map V.int := by
          rw [List.map_map]
          exact list_of (by rw [hlen, lt]) he
        rw [this]
        congr 1
        unfold turnS
        apply List.ext_getElem
        · simp
        · intro i h1 h2
          simp only [List.length_map, List.length_range] at h1
          simp [List.getD_eq_getElem?_getD, List.getElem?_eq_getElem h1]
      subst ey
      refine ⟨D, _, rfl, .inl ⟨SqL.of nw.2.1, fun q1 nq1 => ?_⟩⟩
      have s1 := same_new (o := .tup ((turnS a xs).map V.int)) nq1
      refine ⟨(show 2 ≤ 1000 by decide), fun q2 H2 n2 => ?_⟩
      refine k q2 (.ref q1) H2 (nw.2.2.trans (s1.trans n2.2.2)) (SqT.of n2.2.1) (dp_ints (SqT.of (n2.2.2 _ _ upd_same)))
end
end Pg
set_option Elab.async false
set_option linter.all false
set_option maxRecDepth 100000
set_option maxHeartbeats 8000000
namespace Hy
open PySem PySem.Spec PyProof.Rows L2 L2H Gd Rl Fx
/-! an own error without an attribute: raised; the caught one asked -/
section
variable {X : Cx} {pins : List (Addr × Obj)} {σ : L2.St} {H : Hp} {s : Shared} {B newId initId : String} {bmB : List Value} {C W fI : Addr} {k : Nat}
theorem pmk_err0 {x : Str} {p pos : Pos} (Z : Root B newId initId bmB) (T : ErrT X.K X.mg newId initId bmB C W fI) (N : Fn0 X.prog X.K C fI) (rz : Raises X (.ref C)) (hr : Room (k + 1) X.A) (gC : X.mg x = some (.ref C)) (hg : Gl X x)
    (hdb : (x == ("__debug__" : Str)) = false := by decide) : PMk X (.Call (.Name x p) [] [] pos) (fun σ H Q => Q (.ref C) none H) := by
  intro pins s σ H Q I h
  refine wpAny_Call_Name_kw (ld_glob I hg gC ?_ hdb)
  refine PySem.W.callWith_K0 I.kIn T.kC ?_
  obtain ⟨nm, q, N', bs, sn, sub, ab, col, dd, k0, k1, k2, k3, k5, hC⟩ := T.cls
  obtain ⟨hp, g, dr, tk, os⟩ := s
  have kk : ∀ b o, hp.get? b = some o → ((hp.push (PySem.W.kdv_tup [])).push (PySem.HandSPX.excO C hp.objs.size)).get? b = some o := fun b o e => Heap.get?_push_of_some _ (Heap.get?_push_of_some _ e)
  have hget : ((hp.push (PySem.W.kdv_tup [])).push (PySem.HandSPX.excO C hp.objs.size)).get? (hp.objs.size + 1) = some (PySem.HandSPX.excO C hp.objs.size) := by heap_get
  show wpAny _ _ (call (.ref C) []) _ _ _
  refine wpAny_call (kw_call Z.fb (hT_of Z W) (I.kIn _ _ hC) (PySem.W.looks_findIn I.kIn T.iC) (fun self => PySem.W.bind_fn I.kIn self T.tI) (by show 0 ≤ sizeLine; exact Nat.zero_le _) ?_)
  refine init0 (s := ⟨(hp.push (PySem.W.kdv_tup [])).push (PySem.HandSPX.excO C hp.objs.size), g, dr, tk, os⟩) Z T I.ok.mod (fun b o e => kk b o (I.bk b o e)) N hget ?_ fun h' tk' t1 k1 e1 => ?_
  · rw [make_depth]
    have := hr.dp
    omega
  · have old : ∀ b o, hp.get? b = some o → h'.get? b = some o := fun b o e => k1 b o (Nat.ne_of_lt (Nat.lt_succ_of_lt (Heap.lt_size e))) (kk b o e)
    have na : H (hp.objs.size + 1) = none := I.hok.fresh (Nat.le_succ _)
    refine ⟨rfl, ?_⟩
    obtain ⟨G, g1, g2⟩ := restrict h' fun b => decide (b ≠ hp.objs.size + 1)
    have gk : ∀ b, b ≠ hp.objs.size + 1 → G.get? b = h'.get? b := fun b hb => g1 b (decide_eq_true hb)
    have ge : G.get? (hp.objs.size + 1) = none := g2 _ (by simp)
    have kG : ∀ b o, G.get? b = some o → h'.get? b = some o := fun b o e => by
      rcases Classical.em (b = hp.objs.size + 1) with z | z
      · rw [z, ge] at e
        cases e
      · exact (gk b z).symm.trans e
    have oG : ∀ b o, hp.get? b = some o → G.get? b = some o := fun b o e => (gk b (Nat.ne_of_lt (Nat.lt_succ_of_lt (Heap.lt_size e)))).trans (old b o e)
    exact ⟨hp.objs.size + 1, _, _, ⟨G, g, dr, tk', os⟩, H, .ref C, none, rfl, I.kept (t' := tk') (h' := G) oG, kG, ge, e1, ⟨rfl, rfl⟩, rfl, rfl, na, rfl, I.bare, rz, h⟩
end
section
variable {X : Cx} {pins : List (Addr × Obj)} {σ : L2.St} {H : Hp} {s : Shared} {a C : Addr} {oe : Obj}
theorem inst_pin0 (I : Inv X pins σ H s) (hp : (a, oe) ∈ X.pn) (hz : Zc (.ref C) none oe) (hf : ∃ vs, oe.data = .fields vs) : PySem.W.InstAt s.heap a oe C none := by
  obtain ⟨ha, _⟩ := I.pin (a, oe) (List.mem_append_left _ hp)
  obtain ⟨vs, hd⟩ := hf
  exact ⟨ha, hz.1, by unfold PySem.W.notCls; rw [hd] <;> rfl, by rw [hz.2]; exact trivial⟩
/-- isinstance(e, c), e the error that is handled, without a dict -/
def rIsP0 (K : PySem.W.Frag) (a C : Addr) : List V → Hp → VK → Prop := fun xs H Q => ∃ (c : V) (u : Value) (b : Bool), xs = [.ref a, c] ∧ ClsV c u ∧ PySem.W.kitOne K (.ref C) u = some b ∧ Q (.bl b) H
theorem call_isP0 (hp : (a, oe) ∈ X.pn) (hz : Zc (.ref C) none oe) (hf : ∃ vs, oe.data = .fields vs) (T : IsC X.K C) : CallR X (.builtin "isinstance") (rIsP0 X.K a C) := by
  intro pins s σ H xs us Q I r h
  obtain ⟨c, u, b, rfl, kc, e, q⟩ := h
  obtain ⟨u1, u2, rfl, r1, r2⟩ := vals2 r
  have e2 := kc.eq r2
  subst e2
  cases (show u1 = Value.ref a from r1)
  have J := inst_pin0 I hp hz hf
  exact PySem.W.kia_one (PySem.W.kitx_exc (gt := none) T.cl T.ga T.gg T.ex T.ha T.hn T.ht T.hm) I.kIn J e (fun z => nomatch z) fun tk => ⟨.bl b, H, I.tok tk, rfl, q⟩
end
end Hy
set_option Elab.async false
set_option linter.all false
set_option maxRecDepth 100000
set_option maxHeartbeats 8000000
namespace Pg
open PySem PySem.Spec PyProof.Rows L2 Gd Rl Te Nu TL Ow Fx Hy StX
/-! ### histories -/
abbrev sHis : Stmt := top 16
abbrev sHi : Stmt := inClass sHis 0
abbrev sHp : Stmt := inClass sHis 1
abbrev sHc : Stmt := inClass sHis 2
abbrev sHb : Stmt := inClass sHis 4
/-- what stays when lists and histories change -/
def Fh (CH : Addr) (H H' : Hp) : Prop := ∀ b o, H b = some o → (∀ xs, o ≠ .lst xs) → (∀ d u, o ≠ .ins CH d [("states", u)]) → H' b = some o
theorem Fh.refl {CH : Addr} {H : Hp} : Fh CH H H := fun _ _ e _ _ => e
theorem Fh.trans {CH : Addr} {H H1 H2 : Hp} (a : Fh CH H H1) (b : Fh CH H1 H2) : Fh CH H H2 := fun c o e n m => b c o (a c o e n m) n m
theorem fh_same {CH : Addr} {H H' : Hp} (s : Same H H') : Fh CH H H' := fun b o e _ _ => s b o e
theorem fh_upd {CH h d : Addr} {u v : V} {H : Hp} (e : H h = some (.ins CH d [("states", u)])) : Fh CH H (upd H h (.ins CH d [("states", v)])) := fun b o q _ m => by
  rw [upd_ne (fun z => by rw [z, e] at q; cases q; exact m _ _ rfl)]
  exact q
theorem seqT_fh {K : PySem.W.Frag} {CH : Addr} {H H' : Hp} {a : Addr} {xs : List V} (s : Fh CH H H') (h : SqT K H a xs) : SqT K H' a xs := by
  rcases h with (h | ⟨o, h⟩) | h
  · exact .inl (.inl (s _ _ h (fun _ q => nomatch q) fun _ _ q => nomatch q))
  · exact .inl (.inr ⟨o, s _ _ h (fun _ q => nomatch q) fun _ _ q => nomatch q⟩)
  · exact .inr h
mutual
theorem dp_fh {K : PySem.W.Frag} {CH : Addr} {H H' : Hp} (s : Fh CH H H') : ∀ (d : PyData) {v : V}, nolD d = true → Dp K H v d → Dp K H' v d
  | .none, _, _, h => by cases h; exact .non
  | .bool b, _, _, h => by cases h; exact .bl b
  | .int i, _, _, h => by cases h; exact .int i
  | .str z, _, _, h => by cases h; exact .str z
  | .list ds, _, n, _ => by cases n
  | .tuple ds, _, n, h => by
    cases h with
    | tup hs ha => exact .tup (seqT_fh s hs) (dp_fhAll s ds (by rw [nolD] at n; exact n) ha)
  | .dict _, _, _, h => by cases h
theorem dp_fhAll {K : PySem.W.Frag} {CH : Addr} {H H' : Hp} (s : Fh CH H H') : ∀ (ds : List PyData) {vs : List V}, nolAll ds = true → DpAll K H vs ds → DpAll K H' vs ds
  | [], _, _, h => by cases h; exact .nil
  | d :: ds, _, n, h => by
    rw [nolAll, Bool.and_eq_true] at n
    cases h with
    | cons h1 h2 => exact .cons (dp_fh s d n.1 h1) (dp_fhAll s ds n.2 h2)
end
def ButH (p : Addr) (H H' : Hp) : Prop := ∀ b o, H b = some o → b ≠ p → H' b = some o
/-- a state: the branch taken to it, its place, its values -/
abbrev Stt : Type := Option Nat × Str × List Int
def ixD : Option Nat → PyData
  | .none => .none
  | some i => .int i
def stD (s : Stt) : PyData := .tuple [ixD s.1, .str s.2.1, fD s.2.2]
def HistAt (K : PySem.W.Frag) (CH : Addr) (H : Hp) (h : Addr) (ss : List Stt) : Prop := ∃ (d : Addr) (u : V), H h = some (.ins CH d [("states", u)]) ∧ Dp K H u (.tuple (ss.map stD))
theorem nolAll_ints : ∀ xs : List Int, nolAll (xs.map PyData.int) = true
  | [] => rfl
  | x :: xs => by
    rw [List.map_cons, nolAll, nolAll_ints xs]
    rfl
theorem nol_st (s : Stt) : nolD (stD s) = true := by
  obtain ⟨i, z, xs⟩ := s
  show nolAll [ixD i, .str z, fD xs] = true
  rw [nolAll, nolAll, nolAll, nolAll]
  have h1 : nolD (ixD i) = true := by cases i <;> rfl
  have h2 : nolD (fD xs) = true := nolAll_ints xs
  rw [h1, h2]
  rfl
theorem nol_sts : ∀ ss : List Stt, nolAll (ss.map stD) = true
  | [] => rfl
  | s :: ss => by
    rw [List.map_cons, nolAll, nol_st s, nol_sts ss]
    rfl
theorem HistAt.same {K : PySem.W.Frag} {CH h : Addr} {H H' : Hp} {ss : List Stt} (g : HistAt K CH H h ss) (s : Same H H') : HistAt K CH H' h ss :=
  let ⟨d, u, h1, h2⟩ := g
  ⟨d, u, s _ _ h1, dp_same s _ h2⟩
/-- the class's facts -/
structure HisC (K : PySem.W.Frag) (CH fHi fHp fHc fHb : Addr) (dHi dHp dHc dHb : FuncData) : Prop where
  cl : Cls K CH
  no : NoAttr K CH "states"
  mkr : Mk K CH fHi
  mp : Meth K CH "present" fHp
  mc : Meth K CH "change" fHc
  mb : Meth K CH "back" fHb
  fi : FunP K "__init__" "History.__init__" sHi fHi dHi
  fp : FunP K "present" "History.present" sHp fHp dHp
  fc : FunP K "change" "History.change" sHc fHc dHc
  fb : FunP K "back" "History.back" sHb fHb dHb
/-- an error class without an attribute, over ArithmeticError -/
structure Err0 (prog : Program) (K : PySem.W.Frag) (mg : Str → Option Value) (x : Str) (C W fI : Addr) : Prop where
  t : ErrT K mg "ArithmeticError.__new__" "ArithmeticError.__init__" [.type "ArithmeticError", .type "Exception", .type "BaseException", .type "object"] C W fI
  n : Fn0 prog K C fI
  g : mg x = some (.ref C)
  sub : PySem.W.subIn K (.ref C) (.type "BaseException") = some true
  ty : PySem.W.typeIn K (.ref C) = some (.type "type")
theorem atI_end {xs : List V} {v : V} (h : xs.getLast? = some v) : atI xs (-1) = some v := by
  obtain ⟨ys, rfl⟩ := List.getLast?_eq_some_iff.mp h
  exact atI_last _ _
theorem cut_last {xs : List V} : cutV xs none (some (-1)) = xs.dropLast := by
  unfold cutV
  rw [HT.sIx_none, List.drop_zero, Nat.sub_zero, List.dropLast_eq_take]
  congr 1
  unfold HT.sIx
  show (if (-1 : Int) < 0 then ((-1 : Int) + (xs.length : Int)).toNat else min (-1 : Int).toNat xs.length) = _
  rw [if_pos (by decide)]
  omega
theorem dp_last {K : PySem.W.Frag} {H : Hp} : ∀ {xs : List V} {ds : List PyData} {d : PyData}, DpAll K H xs ds → ds.getLast? = some d → ∃ v, xs.getLast? = some v ∧ Dp K H v d
  | _, [d], d', .cons h .nil, e => by
    cases e
    exact ⟨_, rfl, h⟩
  | _, _ :: d2 :: ds, d', .cons h hs, e => by
    cases hs with
    | cons h2 hs =>
      obtain ⟨v, e1, e2⟩ := dp_last (DpAll.cons h2 hs) (by rw [List.getLast?_cons_cons] at e; exact e)
      exact ⟨v, by rw [List.getLast?_cons_cons]; exact e1, e2⟩
theorem dp_front {K : PySem.W.Frag} {H : Hp} : ∀ {xs : List V} {ds : List PyData}, DpAll K H xs ds → DpAll K H xs.dropLast ds.dropLast
  | _, _, .nil => .nil
  | _, _, .cons h .nil => .nil
  | _, _, .cons h (.cons h2 hs) => .cons h (dp_front (.cons h2 hs))
theorem dp_appD {K : PySem.W.Frag} {H : Hp} : ∀ {xs ys : List V} {ds es : List PyData}, DpAll K H xs ds → DpAll K H ys es → DpAll K H (xs ++ ys) (ds ++ es)
  | _, _, _, _, .nil, h => h
  | _, _, _, _, .cons h1 h2, h => .cons h1 (dp_appD h2 h)
section
variable {P : Program} {w : World} {K : PySem.W.Frag} {mg : Str → Option Value} {base : Heap} {f CH : Addr} {fd : FuncData}
def spHi (K : PySem.W.Frag) (CH : Addr) : Sp := fun vs H Q _ => ∃ (H0 : Hp) (p dx : Addr) (u : V) (s : Stt), vs = [.ref p, u] ∧ Same H0 H ∧ H0 p = none ∧ H p = some (.ins CH dx []) ∧ Dp K H0 u (stD s) ∧ ∀ H', Same H0 H' → HistAt K CH H' p [s] → (∀ b o, H b = some o → b ≠ p → H' b = some o) → Q .non H'
theorem scHi : FnScope ["self", "state"] ["self", "state"] (defScope sHi) := ⟨rfl, rfl, rfl, by decide +kernel, rfl, by decide +kernel, by decide +kernel⟩
theorem ok_hi (F : FunP K "__init__" "History.__init__" sHi f fd) (cl : Cls K CH) (no : NoAttr K CH "states") : FnOk P w K mg base CX0 1 f fd ["self", "state"] (spHi K CH) := by
  refine F.ok scHi (fun vs H Q E h => ?_) (fun cdv A outer s H vs Q E hr h => ?_)
  · obtain ⟨H0, p, dx, u, s, rfl, _⟩ := h
    rfl
  · obtain ⟨H0, p, dx, u, st, rfl, s0, n0, hp, hu, k⟩ := h
    refine ⟨_, PSs.nox <| pss_one (ps_fld (pv 0) (pe_tupR (pa_cons (pv 1) pa_nil)) rfl), ?_⟩
    refine ⟨_, rfl, (show 1 ≤ 1000 by decide), fun q H1 n1 => ?_⟩
    have hp1 := n1.2.2 _ _ hp
    refine ⟨_, rfl, p, CH, dx, _, rfl, hp1, cl, no, (by decide), ?_⟩
    have sv : Same H0 (upd H1 p (.ins CH dx [("states", .ref q)])) := same_put (s0.trans n1.2.2) n0
    refine k _ sv ⟨dx, .ref q, upd_same, ?_⟩ fun b o e nb => ?_
    · have nq : q ≠ p := fun e => by
        have z := n1.1
        rw [e, hp] at z
        cases z
      refine .tup (SqT.of (by rw [upd_ne nq]; exact n1.2.1)) (.cons (dp_same sv _ hu) .nil)
    · rw [upd_ne nb]
      exact n1.2.2 _ _ e
def spHp (K : PySem.W.Frag) (CH : Addr) : Sp := fun vs H Q _ => ∃ (h : Addr) (ss : List Stt) (s : Stt), vs = [.ref h] ∧ HistAt K CH H h ss ∧ ss.getLast? = some s ∧ ∀ v, Dp K H v (stD s) → Q v H
theorem scHp : FnScope ["self"] ["self"] (defScope sHp) := ⟨rfl, rfl, rfl, by decide +kernel, rfl, by decide +kernel, by decide +kernel⟩
theorem ok_hp (F : FunP K "present" "History.present" sHp f fd) (cl : Cls K CH) (no : NoAttr K CH "states") : FnOk P w K mg base CX0 1 f fd ["self"] (spHp K CH) := by
  refine F.ok scHp (fun vs H Q E h => ?_) (fun cdv A outer s H vs Q E hr h => ?_)
  · obtain ⟨p, ss, st, rfl, _⟩ := h
    rfl
  · obtain ⟨p, ss, st, rfl, ⟨d, u, hp, hu⟩, el, k⟩ := h
    refine ⟨_, PSs.nox <| pss_one (ps_ret (pe_ix (r := rIxT K) ix_tup (pe_fld (pv 0) rfl) (pe_un un_neg pe_int) (fun _ _ => rfl))), ?_⟩
    obtain ⟨t, xs, rfl, ht, hxs⟩ := rp_tup (.inl hu)
    obtain ⟨v, ev, hv⟩ := dp_last hxs (by rw [List.getLast?_map, el]; rfl)
    exact ⟨_, rfl, p, CH, d, _, _, rfl, hp, cl, no, rfl, _, rfl, t, xs, -1, v, rfl, rfl, ht, atI_end ev, k v hv⟩
def spHc (K : PySem.W.Frag) (CH : Addr) : Sp := fun vs H Q _ => ∃ (h : Addr) (u : V) (ss : List Stt) (s : Stt), vs = [.ref h, u] ∧ HistAt K CH H h ss ∧ Dp K H u (stD s) ∧ ss.length ≤ 900 ∧ ∀ H', Fh CH H H' → ButH h H H' → HistAt K CH H' h (ss ++ [s]) → Q .non H'
theorem scHc : FnScope ["self", "state"] ["self", "state"] (defScope sHc) := ⟨rfl, rfl, rfl, by decide +kernel, rfl, by decide +kernel, by decide +kernel⟩
theorem ok_hc (F : FunP K "change" "History.change" sHc f fd) (cl : Cls K CH) (no : NoAttr K CH "states") : FnOk P w K mg base CX0 1 f fd ["self", "state"] (spHc K CH) := by
  refine F.ok scHc (fun vs H Q E h => ?_) (fun cdv A outer s H vs Q E hr h => ?_)
  · obtain ⟨p, u, ss, st, rfl, _⟩ := h
    rfl
  · obtain ⟨p, y, ss, st, rfl, ⟨d, u, hp, hu⟩, hy, l9, k⟩ := h
    refine ⟨_, PSs.nox <| pss_one (ps_fld (pv 0) (pe_tupR (pa_star (pe_fld (pv 0) rfl) (pa_cons (pv 1) pa_nil))) rfl), ?_⟩
    obtain ⟨t, xs, rfl, ht, hxs⟩ := rp_tup (.inl hu)
    have lx := dp_len hxs
    rw [List.length_map] at lx
    refine ⟨_, rfl, p, CH, d, _, _, rfl, hp, cl, no, rfl, t, xs, rfl, .inl ht, _, rfl, by rw [List.length_append]; show xs.length + 1 ≤ 1000; omega, fun q H1 n1 => ?_⟩
    have hp1 := n1.2.2 _ _ hp
    refine ⟨_, rfl, p, CH, d, _, rfl, hp1, cl, no, (show 1 < 1000 by decide), ?_⟩
    have nq : q ≠ p := fun e => by
      have z := n1.1
      rw [e, hp] at z
      cases z
    have fh : Fh CH H (upd H1 p (.ins CH d [("states", .ref q)])) := (fh_same n1.2.2).trans (fh_upd hp1)
    refine k _ fh (fun b o e nb => ?_) ⟨d, .ref q, upd_same, ?_⟩
    · rw [upd_ne nb]
      exact n1.2.2 _ _ e
    · rw [List.map_append]
      exact .tup (SqT.of (by rw [upd_ne nq]; exact n1.2.1)) (dp_appD (dp_fhAll fh _ (nol_sts ss) hxs) (.cons (dp_fh fh _ (nol_st st) hy) .nil))
def spHb (K : PySem.W.Frag) (CH CN : Addr) : Sp := fun vs H Q E => ∃ (h : Addr) (ss : List Stt), vs = [.ref h] ∧ HistAt K CH H h ss ∧ ss.length ≤ 900 ∧ (ss.length = 1 → E (.ref CN) none H) ∧ (ss.length ≠ 1 → ∀ H', Fh CH H H' → ButH h H H' → HistAt K CH H' h ss.dropLast → Q .non H')
theorem scHb : FnScope ["self"] ["self"] (defScope sHb) := ⟨rfl, rfl, rfl, by decide +kernel, rfl, by decide +kernel, by decide +kernel⟩
theorem ok_hb {CN WN fN : Addr} (F : FunP K "back" "History.back" sHb f fd) (cl : Cls K CH) (no : NoAttr K CH "states") (T : Mo mg) (XE : Err0 P K mg "NothingToUndo" CN WN fN) : FnOk P w K mg base (L2.CX P w) 2 f fd ["self"] (spHb K CH CN) := by
  refine okX F scHb (fun vs H Q E h => ?_) (fun cdv A outer s H vs Q E hr h => ?_)
  · obtain ⟨p, ss, rfl, _⟩ := h
    rfl
  · obtain ⟨p, ss, rfl, ⟨d, u, hp, hu⟩, l9, kN, kY⟩ := h
    refine ⟨_, pss_cons (ps_if (pt_cmpR op_eq (pe_callB call_len (by rfl) T.len PySem.boot_len (pa_cons (pe_fld (pv 0) rfl) pa_nil)) pe_int (nomark _))
        (pss_one (ps_raise rfl (takes_of rfl rfl rfl rfl) (pmk_err0 rootA XE.t XE.n (raises_own XE.sub XE.ty) hr XE.g (by rfl)))) pss_nil)
      <| pss_one (ps_fld (pv 0) (pe_slice (r := rSlTR K) sl_tupR (pe_fld (pv 0) rfl) po_none (po_some (pe_un un_neg pe_int))) rfl), ?_⟩
    obtain ⟨t, xs, rfl, ht, hxs⟩ := rp_tup (.inl hu)
    have lx := dp_len hxs
    rw [List.length_map] at lx
    refine ⟨_, rfl, p, CH, d, _, _, rfl, hp, cl, no, rfl, _, _, rfl, .inr ⟨_, ht, rfl⟩, rfl, _, rfl, ?_⟩
    rw [lx]
    have ed : decide (V.int (ss.length : Int) = V.int 1) = decide (ss.length = 1) := by
      rw [dec_int, Bool.eq_iff_iff, beq_iff_eq, decide_eq_true_eq]
      omega
    rw [ed]
    refine ite2 (fun hc => ?_) (fun hc => ?_)
    · exact kN (of_decide_eq_true hc)
    · refine ⟨_, rfl, p, CH, d, _, _, rfl, hp, cl, no, rfl, _, rfl, _, rfl, t, xs, rfl, ht, fun q H1 s1 hq => ?_⟩
      rw [cut_last] at hq
      have hp1 := s1 _ _ hp
      refine ⟨_, rfl, p, CH, d, _, rfl, hp1, cl, no, (show 1 < 1000 by decide), ?_⟩
      have fh : Fh CH H (upd H1 p (.ins CH d [("states", .ref q)])) := (fh_same s1).trans (fh_upd hp1)
      refine kY (of_decide_eq_false (by simpa using hc)) _ fh (fun b o e nb => ?_) ⟨d, .ref q, upd_same, ?_⟩
      · rw [upd_ne nb]
        exact s1 _ _ e
      · rw [List.map_dropLast]
        exact .tup (seqT_fh (fh_upd hp1) hq) (dp_front (dp_fhAll fh _ (nol_sts ss) hxs))
end
end Pg
set_option Elab.async false
set_option linter.all false
set_option maxRecDepth 100000
set_option maxHeartbeats 8000000
namespace L2
open PySem PySem.Spec PyProof.Rows
/-! data without dicts compared, whatever its texts -/
def rEqP (K : PySem.W.Frag) : R2 := fun x y H Q => ∃ d e, Dp K H x d ∧ Dp K H y e ∧ d.plain = true ∧ e.plain = true ∧ d.depth ≤ 64 ∧ Q (.bl (PyData.eqv d e)) H
def rNeP (K : PySem.W.Frag) : R2 := fun x y H Q => ∃ d e, Dp K H x d ∧ Dp K H y e ∧ d.plain = true ∧ e.plain = true ∧ d.depth ≤ 64 ∧ Q (.bl (!PyData.eqv d e)) H
section
variable {X : Cx}
theorem op_eqP (hu : X.A.units + 64 < cLine) : OpR X (compareOp .Eq) (rEqP X.K) := by
  intro pins s σ H x y v u Q I rx ry h
  obtain ⟨d, e, hd, he, sd, se, dd, q⟩ := h
  obtain ⟨as, r1⟩ := Dp.reads I d x v hd rx
  obtain ⟨bs, r2⟩ := Dp.reads I e y u he ry
  exact SeqAt.eq_plain r1 r2 sd se (Nat.lt_of_le_of_lt (Nat.add_le_add_left (Nat.le_trans (Nat.min_le_left _ _) dd) _) hu) ⟨.bl _, H, I, rfl, q⟩
theorem op_neP (hu : X.A.units + 64 < cLine) : OpR X (compareOp .NotEq) (rNeP X.K) := by
  intro pins s σ H x y v u Q I rx ry h
  obtain ⟨d, e, hd, he, sd, se, dd, q⟩ := h
  obtain ⟨as, r1⟩ := Dp.reads I d x v hd rx
  obtain ⟨bs, r2⟩ := Dp.reads I e y u he ry
  exact SeqAt.ne_plain r1 r2 sd se (Nat.lt_of_le_of_lt (Nat.add_le_add_left (Nat.le_trans (Nat.min_le_left _ _) dd) _) hu) ⟨.bl _, H, I, rfl, q⟩
end
end L2
namespace Pg
open PySem PySem.Spec PyProof.Rows L2
theorem eqv_ints : ∀ xs ys : List Int, PyData.eqvAll (xs.map PyData.int) (ys.map PyData.int) = decide (xs = ys)
  | [], [] => by simp [PyData.eqvAll]
  | [], y :: ys => by simp [PyData.eqvAll]
  | x :: xs, [] => by simp [PyData.eqvAll]
  | x :: xs, y :: ys => by
    rw [List.map_cons, List.map_cons, PyData.eqvAll, eqv_ints xs ys, PyData.eqv]
    rw [Bool.eq_iff_iff, Bool.and_eq_true, beq_iff_eq, decide_eq_true_iff, decide_eq_true_iff, List.cons.injEq]
/-- a state: a place and values -/
def plD (s : Str × List Int) : PyData := .tuple [.str s.1, fD s.2]
theorem eqv_pl (s t : Str × List Int) : PyData.eqv (plD s) (plD t) = decide (s = t) := by
  obtain ⟨z, xs⟩ := s
  obtain ⟨y, ys⟩ := t
  show PyData.eqvAll [.str z, fD xs] [.str y, fD ys] = _
  rw [PyData.eqvAll, PyData.eqvAll, PyData.eqvAll, PyData.eqv, Bool.and_true]
  rw [show PyData.eqv (fD xs) (fD ys) = PyData.eqvAll (xs.map PyData.int) (ys.map PyData.int) from by show PyData.eqv (.tuple _) (.tuple _) = _; rw [PyData.eqv], eqv_ints]
  rw [Bool.eq_iff_iff, Bool.and_eq_true, beq_iff_eq, decide_eq_true_iff, decide_eq_true_iff, Prod.mk.injEq]
theorem plain_ints : ∀ xs : List Int, PyData.plainAll (xs.map PyData.int) = true
  | [] => by simp [PyData.plainAll]
  | x :: xs => by
    rw [List.map_cons, PyData.plainAll, plain_ints xs, PyData.plain]
    rfl
theorem plain_f (xs : List Int) : PyData.plain (fD xs) = true := by
  show PyData.plain (.tuple _) = true
  rw [PyData.plain, plain_ints]
theorem plain_pl (s : Str × List Int) : PyData.plain (plD s) = true := by
  show PyData.plain (.tuple _) = true
  rw [PyData.plain, PyData.plainAll, PyData.plainAll, PyData.plainAll, plain_f, PyData.plain]
  rfl
theorem depth_ints : ∀ xs : List Int, PyData.depthAll (xs.map PyData.int) ≤ 1
  | [] => by simp [PyData.depthAll]
  | x :: xs => by
    have := depth_ints xs
    simp only [List.map_cons, PyData.depthAll, PyData.depth]
    omega
theorem depth_f (xs : List Int) : PyData.depth (fD xs) ≤ 2 := by
  have := depth_ints xs
  show PyData.depth (.tuple _) ≤ 2
  simp only [PyData.depth]
  omega
theorem depth_pl (s : Str × List Int) : PyData.depth (plD s) ≤ 3 := by
  have := depth_f s.2
  show PyData.depth (.tuple [.str s.1, fD s.2]) ≤ 3
  simp only [PyData.depth, PyData.depthAll]
  omega
end Pg
set_option Elab.async false
set_option linter.all false
set_option maxRecDepth 100000
set_option maxHeartbeats 8000000
namespace Pg
open PySem PySem.Spec PyProof.Rows L2 Gd Rl Te Nu TL Ow Fx Hy StX
/-! ### leads -/
abbrev sLed : Stmt := top 56
abbrev sLi : Stmt := inClass sLed 0
abbrev sLt : Stmt := inClass sLed 1
abbrev sLu : Stmt := inClass sLed 2
abbrev sLpr : Stmt := inClass sLed 5
abbrev sLpl : Stmt := inClass sLed 6
abbrev sLpo : Stmt := inClass sLed 7
abbrev sLta : Stmt := inClass sLed 8
abbrev sLre : Stmt := inClass sLed 9
abbrev sLag : Stmt := inClass sLed 10
abbrev sLle : Stmt := inClass sLed 11
abbrev sLbo : Stmt := inClass sLed 12
/-- what stays when lists and instances change -/
def Ko (H H' : Hp) : Prop := ∀ b o, H b = some o → (∀ xs, o ≠ .lst xs) → (∀ C d fs, o ≠ .ins C d fs) → H' b = some o
theorem ko_same {H H' : Hp} (s : Same H H') : Ko H H' := fun b o e _ _ => s b o e
theorem ko_fh {CH : Addr} {H H' : Hp} (s : Fh CH H H') : Ko H H' := fun b o e n m => s b o e n fun d u => m CH d _
theorem ko_ins {H : Hp} {l C d : Addr} {fs : List (Str × V)} {o : HO} (e : H l = some (.ins C d fs)) : Ko H (upd H l o) := fun b u q _ m => by
  rw [upd_ne (fun z => by rw [z, e] at q; cases q; exact m _ _ _ rfl)]
  exact q
theorem seqT_ko {K : PySem.W.Frag} {H H' : Hp} {a : Addr} {xs : List V} (s : Ko H H') (h : SqT K H a xs) : SqT K H' a xs := by
  rcases h with (h | ⟨o, h⟩) | h
  · exact .inl (.inl (s _ _ h (fun _ q => nomatch q) fun _ _ _ q => nomatch q))
  · exact .inl (.inr ⟨o, s _ _ h (fun _ q => nomatch q) fun _ _ _ q => nomatch q⟩)
  · exact .inr h
mutual
theorem dp_ko {K : PySem.W.Frag} {H H' : Hp} (s : Ko H H') : ∀ (d : PyData) {v : V}, nolD d = true → Dp K H v d → Dp K H' v d
  | .none, _, _, h => by cases h; exact .non
  | .bool b, _, _, h => by cases h; exact .bl b
  | .int i, _, _, h => by cases h; exact .int i
  | .str z, _, _, h => by cases h; exact .str z
  | .list ds, _, n, _ => by cases n
  | .tuple ds, _, n, h => by
    cases h with
    | tup hs ha => exact .tup (seqT_ko s hs) (dp_koAll s ds (by rw [nolD] at n; exact n) ha)
  | .dict _, _, _, h => by cases h
theorem dp_koAll {K : PySem.W.Frag} {H H' : Hp} (s : Ko H H') : ∀ (ds : List PyData) {vs : List V}, nolAll ds = true → DpAll K H vs ds → DpAll K H' vs ds
  | [], _, _, h => by cases h; exact .nil
  | d :: ds, _, n, h => by
    rw [nolAll, Bool.and_eq_true] at n
    cases h with
    | cons h1 h2 => exact .cons (dp_ko s d n.1 h1) (dp_koAll s ds n.2 h2)
end
theorem nol_sD (ss : List (Str × List Int)) : nolD (saysD ss) = true := by
  show nolAll _ = true
  refine nol_all fun d hd => ?_
  obtain ⟨s, _, rfl⟩ := List.mem_map.mp hd
  show nolAll [.str s.1, fD s.2] = true
  rw [nolAll, nolAll, nolAll, nol_f]
  rfl
theorem nol_nD (ns : List Str) : nolD (namesD ns) = true := by
  show nolAll _ = true
  refine nol_all fun d hd => ?_
  obtain ⟨s, _, rfl⟩ := List.mem_map.mp hd
  rfl
theorem nol_aD (as : List Arm) : nolD (armsD as) = true := by
  show nolAll _ = true
  refine nol_all fun d hd => ?_
  obtain ⟨s, _, rfl⟩ := List.mem_map.mp hd
  exact nol_arm s
/-- a program stays, where its object stays -/
theorem ProgAt.ko {K : PySem.W.Frag} {C : Addr} {H H' : Hp} {p : Addr} {ns : List Str} {ss : List (Str × List Int)} {as : List Arm} (g : ProgAt K C H p ns ss as) (s : Ko H H') (e : ∀ o, H p = some o → H' p = some o) : ProgAt K C H' p ns ss as :=
  let ⟨dx, a, b, c, d, h1, h2, h3, h4, h5⟩ := g
  ⟨dx, a, b, c, d, e _ h1, dp_ko s _ (nol_nD ns) h2, dp_ko s _ (nol_sD ss) h3, dp_ko s _ (nol_aD as) h4, seqT_ko s h5⟩
theorem HistAt.ko {K : PySem.W.Frag} {CH h : Addr} {H H' : Hp} {ss : List Stt} (g : HistAt K CH H h ss) (s : Ko H H') (e : ∀ o, H h = some o → H' h = some o) : HistAt K CH H' h ss :=
  let ⟨d, u, h1, h2⟩ := g
  ⟨d, u, e _ h1, dp_ko s _ (by show nolAll _ = true; exact nol_sts ss) h2⟩
def pfL (a b : V) : List (Str × V) := putF "_history" b (putF "_program" a [])
theorem ph1 : ¬ (("_program" : Str) = "_history") := by decide +kernel
theorem pfL_p (a b : V) : (pfL a b).lookup ("_program" : Str) = some a := by
  unfold pfL
  rw [lookup_putF, if_neg ph1, lookup_putF, if_pos rfl]
theorem pfL_h (a b : V) : (pfL a b).lookup ("_history" : Str) = some b := by
  unfold pfL
  rw [lookup_putF, if_pos rfl]
theorem one_p {u : V} : ([("states", u)] : List (Str × V)).lookup ("_program" : Str) = none := by rfl
theorem one_t {u : V} : ([("states", u)] : List (Str × V)).lookup ("_text" : Str) = none := by rfl
/-- a lead stands at l, its program at p, its history at h -/
def LeadAt (K : PySem.W.Frag) (C CH CL : Addr) (H : Hp) (l p h : Addr) (ns : List Str) (ss : List (Str × List Int)) (as : List Arm) (hs : List Stt) : Prop :=
  (∃ dx, H l = some (.ins CL dx (pfL (.ref p) (.ref h)))) ∧ ProgAt K C H p ns ss as ∧ HistAt K CH H h hs
section
variable {K : PySem.W.Frag} {C CH CL : Addr} {H H' : Hp} {l p h : Addr} {ns : List Str} {ss : List (Str × List Int)} {as : List Arm} {hs ht : List Stt}
theorem LeadAt.same (g : LeadAt K C CH CL H l p h ns ss as hs) (s : Same H H') : LeadAt K C CH CL H' l p h ns ss as hs :=
  let ⟨⟨dx, e⟩, gp, gh⟩ := g
  ⟨⟨dx, s _ _ e⟩, gp.same s, gh.same s⟩
theorem led_h {dx : Addr} (e : H l = some (.ins CL dx (pfL (.ref p) (.ref h)))) (g : HistAt K CH H h hs) : l ≠ h := fun z => by
  obtain ⟨d, u, h1, _⟩ := g
  rw [z, h1] at e
  have e2 := congrArg (fun o => match o with | HO.ins _ _ fs => fs.lookup ("_program" : Str) | _ => none) (Option.some.inj e)
  replace e2 : ([("states", u)] : List (Str × V)).lookup ("_program" : Str) = (pfL (.ref p) (.ref h)).lookup ("_program" : Str) := e2
  rw [one_p, pfL_p] at e2
  cases e2
theorem prog_h (gp : ProgAt K C H p ns ss as) (g : HistAt K CH H h hs) : p ≠ h := fun z => by
  obtain ⟨d, u, h1, _⟩ := g
  obtain ⟨dx, a, b, c, t, e, _⟩ := gp
  rw [z, h1] at e
  have e2 := congrArg (fun o => match o with | HO.ins _ _ fs => fs.lookup ("_text" : Str) | _ => none) (Option.some.inj e)
  replace e2 : ([("states", u)] : List (Str × V)).lookup ("_text" : Str) = (pfP a b c (.ref t) (.str (textS ns ss as))).lookup ("_text" : Str) := e2
  rw [one_t, pf_t] at e2
  cases e2
/-- the history changes -/
theorem LeadAt.step (g : LeadAt K C CH CL H l p h ns ss as hs) (f : Fh CH H H') (b : ButH h H H') (n : HistAt K CH H' h ht) : LeadAt K C CH CL H' l p h ns ss as ht :=
  let ⟨⟨dx, e⟩, gp, gh⟩ := g
  ⟨⟨dx, b _ _ e (led_h e gh)⟩, gp.ko (ko_fh f) fun o q => b _ _ q (prog_h gp gh), n⟩
end
theorem butH_trans {h : Addr} {H H1 H2 : Hp} (a : ButH h H H1) (b : ButH h H1 H2) : ButH h H H2 := fun c o e n => b c o (a c o e n) n
theorem butH_same {h : Addr} {H H' : Hp} (s : Same H H') : ButH h H H' := fun b o e _ => s b o e
def ixV : Option Nat → V
  | .none => .non
  | some i => .int i
theorem dp_ixV {K : PySem.W.Frag} {H : Hp} (i : Option Nat) : Dp K H (ixV i) (ixD i) := by
  cases i with
  | none => exact .non
  | some i => exact .int _
theorem st_at {K : PySem.W.Frag} {H : Hp} {v : V} {s : Stt} (h : Dp K H v (stD s)) : ∃ (q : Addr) (r : V), v = .ref q ∧ SqT K H q [ixV s.1, .str s.2.1, r] ∧ Dp K H r (fD s.2.2) := by
  obtain ⟨i, z, xs⟩ := s
  obtain ⟨p, zs, rfl, hp, hz⟩ := rp_tup (.inl h)
  cases hz with
  | cons z0 h1 =>
  cases h1 with
  | cons z1 h2 =>
  cases h2 with
  | cons z2 h3 =>
  cases h3
  cases z1
  refine ⟨p, _, rfl, ?_, z2⟩
  cases i with
  | none =>
    cases z0
    exact hp
  | some i =>
    cases z0
    exact hp
/-- how many branches ago the last state was the same -/
def agS (ps : List (Str × List Int)) : Option Nat := ((List.range (ps.length - 1)).find? fun j => decide (ps[ps.length - 2 - j]? = ps[ps.length - 1]?)).map (· + 1)
theorem ag_some {ps : List (Str × List Int)} {j : Nat} (hj : j + 1 < ps.length) (h0 : ∀ k, k < j → ps[ps.length - 2 - k]? ≠ ps[ps.length - 1]?) (e : ps[ps.length - 2 - j]? = ps[ps.length - 1]?) : agS ps = some (j + 1) := by
  unfold agS
  have : (List.range (ps.length - 1)).find? (fun j => decide (ps[ps.length - 2 - j]? = ps[ps.length - 1]?)) = some j := by
    rw [List.find?_range_eq_some]
    refine ⟨decide_eq_true e, List.mem_range.mpr (by omega), fun k hk => ?_⟩
    rw [decide_eq_false (h0 k hk)]
    rfl
  rw [this]
  rfl
theorem ag_none {ps : List (Str × List Int)} (h0 : ∀ k, k + 1 < ps.length → ps[ps.length - 2 - k]? ≠ ps[ps.length - 1]?) : agS ps = none := by
  unfold agS
  have : (List.range (ps.length - 1)).find? (fun j => decide (ps[ps.length - 2 - j]? = ps[ps.length - 1]?)) = none := by
    rw [List.find?_eq_none]
    intro k hk
    have := List.mem_range.mp hk
    rw [decide_eq_false (h0 k (by omega))]
    exact Bool.false_ne_true
  rw [this]
  rfl
theorem atI_neg {xs : List V} {j : Nat} {v : V} (hj : j < xs.length) (h : xs[xs.length - 1 - j]? = some v) : atI xs (-1 - (j : Int)) = some v := by
  unfold atI
  have e : ixN xs.length (-1 - (j : Int)) = some (xs.length - 1 - j) := by
    unfold ixN
    rw [if_neg (by omega), if_pos (by omega)]
    congr 1
    omega
  rw [e]
  exact h
theorem cut_from1 {xs : List V} : cutV xs (some 1) none = xs.drop 1 := by
  unfold cutV
  rw [show (some (1 : Int)) = some ((1 : Nat) : Int) from rfl, HT.sIx_nat, HT.sIx_none]
  cases xs with
  | nil => rfl
  | cons x xs =>
    rw [show min 1 (x :: xs).length = 1 by rw [List.length_cons]; omega]
    exact List.take_of_length_le (by rw [List.length_drop]; omega)
theorem dp_drop {K : PySem.W.Frag} {H : Hp} : ∀ {xs : List V} {ds : List PyData} (n : Nat), DpAll K H xs ds → DpAll K H (xs.drop n) (ds.drop n)
  | _, _, 0, h => h
  | _, _, n + 1, .nil => .nil
  | _, _, n + 1, .cons _ hs => dp_drop n hs
theorem dp_at {K : PySem.W.Frag} {H : Hp} {α : Type} {g : α → PyData} {xs : List V} {l : List α} {i : Nat} {s : α} (h : DpAll K H xs (l.map g)) (e : l[i]? = some s) : ∃ v, xs[i]? = some v ∧ Dp K H v (g s) := by
  have lx := dp_len h
  rw [List.length_map] at lx
  have hi := (List.getElem?_eq_some_iff.mp e).1
  have e1 : xs[i]? = some (xs[i]'(by omega)) := List.getElem?_eq_getElem (by omega)
  obtain ⟨t, et, hv⟩ := map_at h e1
  rw [e] at et
  cases et
  exact ⟨_, e1, hv⟩
theorem dp_mapV {K : PySem.W.Frag} {H : Hp} {α : Type} {f : α → V} {g : α → PyData} (h : ∀ a, Dp K H (f a) (g a)) : ∀ l : List α, DpAll K H (l.map f) (l.map g)
  | [] => .nil
  | a :: l => .cons (h a) (dp_mapV h l)
/-- the class's facts -/
structure LedC (K : PySem.W.Frag) (mg : Str → Option Value) (CL : Addr) : Prop where
  cl : Cls K CL
  np : NoAttr K CL "_program"
  nh : NoAttr K CL "_history"
section
variable {P : Program} {w : World} {K : PySem.W.Frag} {mg : Str → Option Value} {base : Heap} {f C CH CL : Addr} {fd : FuncData}
def spLpr (K : PySem.W.Frag) (C CH CL : Addr) : Sp := fun vs H Q _ => ∃ (l p h : Addr) (ns : List Str) (ss : List (Str × List Int)) (as : List Arm) (hs : List Stt), vs = [.ref l] ∧ LeadAt K C CH CL H l p h ns ss as hs ∧ Q (.ref p) H
theorem scLpr : FnScope ["self"] ["self"] (defScope sLpr) := ⟨rfl, rfl, rfl, by decide +kernel, rfl, by decide +kernel, by decide +kernel⟩
theorem ok_lpr (F : FunP K "program" "Lead.program" sLpr f fd) (X : LedC K mg CL) : FnOk P w K mg base CX0 1 f fd ["self"] (spLpr K C CH CL) := by
  refine F.ok scLpr (fun vs H Q E h => ?_) (fun cdv A outer s H vs Q E hr h => ?_)
  · obtain ⟨l, p, h', ns, ss, as, hs, rfl, _⟩ := h
    rfl
  · obtain ⟨l, p, h', ns, ss, as, hs, rfl, ⟨⟨dx, hl⟩, gp, gh⟩, k⟩ := h
    refine ⟨_, PSs.nox <| pss_one (ps_ret (pe_fld (pv 0) rfl)), ?_⟩
    exact ⟨_, rfl, l, CL, dx, _, _, rfl, hl, X.cl, X.np, pfL_p _ _, k⟩
/-- the place now -/
def spLpl (K : PySem.W.Frag) (C CH CL : Addr) : Sp := fun vs H Q _ => ∃ (l p h : Addr) (ns : List Str) (ss : List (Str × List Int)) (as : List Arm) (hs : List Stt) (s : Stt), vs = [.ref l] ∧ LeadAt K C CH CL H l p h ns ss as hs ∧ hs.getLast? = some s ∧ Q (.str s.2.1) H
theorem scLpl : FnScope ["self"] ["self"] (defScope sLpl) := ⟨rfl, rfl, rfl, by decide +kernel, rfl, by decide +kernel, by decide +kernel⟩
theorem ok_lpl {fHi fHp fHc fHb : Addr} {dHi dHp dHc dHb : FuncData} (F : FunP K "place" "Lead.place" sLpl f fd) (X : LedC K mg CL) (HC : HisC K CH fHi fHp fHc fHb dHi dHp dHc dHb) : FnOk P w K mg base CX0 2 f fd ["self"] (spLpl K C CH CL) := by
  have GP : FnOk P w K mg base CX0 1 fHp dHp ["self"] (spHp K CH) := ok_hp HC.fp HC.cl HC.no
  have bP : Binds K dHp ["self"] [] := HC.fp.bindsN fun _ _ _ _ _ _ us hl => match us, hl with | [_], _ => rfl
  refine F.ok scLpl (fun vs H Q E h => ?_) (fun cdv A outer s H vs Q E hr h => ?_)
  · obtain ⟨l, p, h', ns, ss, as, hs, st, rfl, _⟩ := h
    rfl
  · obtain ⟨l, p, h', ns, ss, as, hs, st, rfl, ⟨⟨dx, hl⟩, gp, gh⟩, el, k⟩ := h
    refine ⟨_, PSs.nox <| pss_one (ps_ret (pe_ix (r := rIxT K) ix_tup (pe_meth0 (pe_fld (pv 0) rfl) HC.cl HC.mp GP hr bP .nil pass0) pe_int (fun _ _ => rfl))), ?_⟩
    obtain ⟨d, u, hh, hu⟩ := id gh
    refine ⟨_, rfl, l, CL, dx, _, _, rfl, hl, X.cl, X.nh, pfL_h _ _, h', d, _, rfl, hh, rfl, h', hs, st, rfl, gh, el, fun v hv => ?_⟩
    obtain ⟨q, r, rfl, hq, hr'⟩ := st_at hv
    exact ⟨q, _, 1, _, rfl, rfl, hq, rfl, k⟩
/-- the point now -/
def spLpo (K : PySem.W.Frag) (C CH CL : Addr) : Sp := fun vs H Q _ => ∃ (l p h : Addr) (ns : List Str) (ss : List (Str × List Int)) (as : List Arm) (hs : List Stt) (s : Stt), vs = [.ref l] ∧ LeadAt K C CH CL H l p h ns ss as hs ∧ hs.getLast? = some s ∧ ∀ v, Dp K H v (fD s.2.2) → Q v H
theorem scLpo : FnScope ["self"] ["self"] (defScope sLpo) := ⟨rfl, rfl, rfl, by decide +kernel, rfl, by decide +kernel, by decide +kernel⟩
theorem ok_lpo {fHi fHp fHc fHb : Addr} {dHi dHp dHc dHb : FuncData} (F : FunP K "point" "Lead.point" sLpo f fd) (X : LedC K mg CL) (HC : HisC K CH fHi fHp fHc fHb dHi dHp dHc dHb) : FnOk P w K mg base CX0 2 f fd ["self"] (spLpo K C CH CL) := by
  have GP : FnOk P w K mg base CX0 1 fHp dHp ["self"] (spHp K CH) := ok_hp HC.fp HC.cl HC.no
  have bP : Binds K dHp ["self"] [] := HC.fp.bindsN fun _ _ _ _ _ _ us hl => match us, hl with | [_], _ => rfl
  refine F.ok scLpo (fun vs H Q E h => ?_) (fun cdv A outer s H vs Q E hr h => ?_)
  · obtain ⟨l, p, h', ns, ss, as, hs, st, rfl, _⟩ := h
    rfl
  · obtain ⟨l, p, h', ns, ss, as, hs, st, rfl, ⟨⟨dx, hl⟩, gp, gh⟩, el, k⟩ := h
    refine ⟨_, PSs.nox <| pss_one (ps_ret (pe_ix (r := rIxT K) ix_tup (pe_meth0 (pe_fld (pv 0) rfl) HC.cl HC.mp GP hr bP .nil pass0) pe_int (fun _ _ => rfl))), ?_⟩
    obtain ⟨d, u, hh, hu⟩ := id gh
    refine ⟨_, rfl, l, CL, dx, _, _, rfl, hl, X.cl, X.nh, pfL_h _ _, h', d, _, rfl, hh, rfl, h', hs, st, rfl, gh, el, fun v hv => ?_⟩
    obtain ⟨q, r, rfl, hq, hr'⟩ := st_at hv
    exact ⟨q, _, 2, _, rfl, rfl, hq, rfl, k _ hr'⟩
/-- the branches taken -/
def takenD (hs : List Stt) : PyData := .tuple ((hs.drop 1).map fun s => ixD s.1)
def spLta (K : PySem.W.Frag) (C CH CL : Addr) : Sp := fun vs H Q _ => ∃ (l p h : Addr) (ns : List Str) (ss : List (Str × List Int)) (as : List Arm) (hs : List Stt), vs = [.ref l] ∧ LeadAt K C CH CL H l p h ns ss as hs ∧ hs.length ≤ 900 ∧ ∀ v H', Same H H' → Dp K H' v (takenD hs) → Q v H'
theorem scLta : FnScope ["self", "state"] ["self"] (defScope sLta) := ⟨rfl, rfl, rfl, by decide +kernel, rfl, by decide +kernel, by decide +kernel⟩
theorem ok_lta (F : FunP K "taken" "Lead.taken" sLta f fd) (T : Mo mg) (X : LedC K mg CL) (cl : Cls K CH) (no : NoAttr K CH "states") : FnOk P w K mg base CX0 1 f fd ["self"] (spLta K C CH CL) := by
  refine F.ok scLta (fun vs H Q E h => ?_) (fun cdv A outer s H vs Q E hr h => ?_)
  · obtain ⟨l, p, h', ns, ss, as, hs, rfl, _⟩ := h
    rfl
  · obtain ⟨l, p, h', ns, ss, as, hs, rfl, ⟨⟨dx, hl⟩, gp, gh⟩, l9, k⟩ := h
    refine ⟨_, PSs.nox <| pss_one (ps_ret (pe_callTy call_tuple_of (by rfl) T.tuple (by decide +kernel) (pa_cons (pe_lc (own := [("state", 1)]) (g := gName 1) (tt := tYes) rfl scLta.nd (pi_tup (pe_slice (r := rSlTR K) sl_tupR (pe_fld (pe_fld (pv 0) rfl) rfl) (po_some pe_int) po_none)) (blkOk_by (N := ["self", "state"]) (sc := defScope sLta) (by decide +kernel)) (fun _ _ _ _ _ => pg_name (i := 1) scLta.nd rfl (Or.inl rfl)) (fun _ _ _ _ _ => pts_nil)
        (fun _ _ _ _ _ => pe_ix (r := rIxT K) ix_tup (pv 1) pe_int (fun _ _ => rfl))) pa_nil))), ?_⟩
    obtain ⟨d, u, hh, hu⟩ := id gh
    obtain ⟨t, xs, rfl, ht, hxs⟩ := rp_tup (.inl hu)
    have lx := dp_len hxs
    rw [List.length_map] at lx
    refine ⟨_, rfl, l, CL, dx, _, _, rfl, hl, X.cl, X.nh, pfL_h _ _, h', CH, d, _, _, rfl, hh, cl, no, rfl, _, rfl, t, xs, rfl, ht, fun q H1 s1 hq => ?_⟩
    rw [cut_from1] at hq
    have hds : DpAll K H1 (xs.drop 1) ((hs.drop 1).map stD) := by
      rw [List.map_drop]
      exact dp_sameAll s1 _ (dp_drop 1 hxs)
    have ld : (xs.drop 1).length = (hs.drop 1).length := by rw [List.length_drop, List.length_drop, lx]
    refine ⟨q, rfl, ⟨_, hq⟩, lcR (walk_tup (xs := xs.drop 1)) (n1 := by rw [List.length_drop]; omega) (fun H' s' => Same.seqT s' hq) (fun i y _ => ∃ s, (hs.drop 1)[i]? = some s ∧ y = ixV s.1) (fun _ _ _ _ _ e => e) ?_ ?_⟩
    · rintro D acc i x Ha Hb K2 hi s nD hD ⟨rfl, ex⟩ kk
      obtain ⟨st, es, hst⟩ := map_at hds ex
      obtain ⟨q2, r, rfl, hq2, _⟩ := st_at (dp_same s _ hst)
      exact ⟨rfl, _, rfl, q2, _, 0, _, rfl, rfl, hq2, rfl, kk _ _ (Same.refl _) ⟨st, es, rfl⟩⟩
    · rintro D Hb ys nw hlen he
      have ey : ys = (hs.drop 1).map fun s => ixV s.1 := list_is (by rw [hlen, ld]) he
      subst ey
      refine ⟨D, _, rfl, .inl ⟨SqL.of nw.2.1, fun q1 nq1 => ?_⟩⟩
      refine k _ _ (s1.trans (nw.2.2.trans (same_new nq1))) (.tup (SqT.of upd_same) (dp_mapV (f := fun s : Stt => ixV s.1) (g := fun s : Stt => ixD s.1) (fun s => dp_ixV s.1) _))
/-- how many -/
def spLle (K : PySem.W.Frag) (C CH CL : Addr) : Sp := fun vs H Q _ => ∃ (l p h : Addr) (ns : List Str) (ss : List (Str × List Int)) (as : List Arm) (hs : List Stt), vs = [.ref l] ∧ LeadAt K C CH CL H l p h ns ss as hs ∧ hs.length ≤ 900 ∧ ∀ H', Same H H' → Q (.int ((hs.length - 1 : Nat) : Int)) H'
theorem scLle : FnScope ["self"] ["self"] (defScope sLle) := ⟨rfl, rfl, rfl, by decide +kernel, rfl, by decide +kernel, by decide +kernel⟩
theorem ok_lle (F : FunP K "__len__" "Lead.__len__" sLle f fd) (T : Mo mg) (X : LedC K mg CL) (cl : Cls K CH) (no : NoAttr K CH "states") : FnOk P w K mg base CX0 1 f fd ["self"] (spLle K C CH CL) := by
  refine F.ok scLle (fun vs H Q E h => ?_) (fun cdv A outer s H vs Q E hr h => ?_)
  · obtain ⟨l, p, h', ns, ss, as, hs, rfl, _⟩ := h
    rfl
  · obtain ⟨l, p, h', ns, ss, as, hs, rfl, ⟨⟨dx, hl⟩, gp, gh⟩, l9, k⟩ := h
    refine ⟨_, PSs.nox <| pss_one (ps_ret (pe_callB call_len (by rfl) T.len PySem.boot_len (pa_cons (pe_slice (r := rSlTR K) sl_tupR (pe_fld (pe_fld (pv 0) rfl) rfl) (po_some pe_int) po_none) pa_nil))), ?_⟩
    obtain ⟨d, u, hh, hu⟩ := id gh
    obtain ⟨t, xs, rfl, ht, hxs⟩ := rp_tup (.inl hu)
    have lx := dp_len hxs
    rw [List.length_map] at lx
    refine ⟨_, rfl, l, CL, dx, _, _, rfl, hl, X.cl, X.nh, pfL_h _ _, h', CH, d, _, _, rfl, hh, cl, no, rfl, _, rfl, t, xs, rfl, ht, fun q H1 s1 hq => ?_⟩
    rw [cut_from1] at hq
    refine ⟨_, _, rfl, .inr ⟨_, hq, rfl⟩, ?_⟩
    rw [List.length_drop, lx]
    exact k H1 s1
def spLbo : Sp := fun vs H Q _ => ∃ (l : Addr), vs = [.ref l] ∧ Q (.bl true) H
theorem scLbo : FnScope ["self"] ["self"] (defScope sLbo) := ⟨rfl, rfl, rfl, by decide +kernel, rfl, by decide +kernel, by decide +kernel⟩
theorem ok_lbo (F : FunP K "__bool__" "Lead.__bool__" sLbo f fd) : FnOk P w K mg base CX0 1 f fd ["self"] spLbo := by
  refine F.ok scLbo (fun vs H Q E h => ?_) (fun cdv A outer s H vs Q E hr h => ?_)
  · obtain ⟨l, rfl, _⟩ := h
    rfl
  · obtain ⟨l, rfl, k⟩ := h
    refine ⟨_, PSs.nox <| pss_one (ps_ret pe_bl), ?_⟩
    exact k
end
end Pg
set_option Elab.async false
set_option linter.all false
set_option maxRecDepth 100000
set_option maxHeartbeats 8000000
namespace Pg
open PySem PySem.Spec PyProof.Rows L2 Gd Rl Te Nu TL Ow Fx Hy StX
/-- the branches that can be taken -/
def readyS (as : List Arm) (z : Str) (xs : List Int) (n : Nat) : List Nat := (List.range n).filter fun k => (as[k]?).any fun a => fitsS a z xs
theorem ready_snoc {as : List Arm} {z : Str} {xs : List Int} {n : Nat} {a : Arm} (h : as[n]? = some a) : readyS as z xs (n + 1) = readyS as z xs n ++ (if fitsS a z xs = true then [n] else []) := by
  unfold readyS
  rw [List.range_succ, List.filter_append]
  congr 1
  rw [List.filter_cons, h]
  rfl
theorem ready_le (as : List Arm) (z : Str) (xs : List Int) (n : Nat) : (readyS as z xs n).length ≤ n := Nat.le_trans (List.length_filter_le _ _) (by rw [List.length_range]; exact Nat.le_refl _)
def readyD (as : List Arm) (z : Str) (xs : List Int) : PyData := .tuple ((readyS as z xs as.length).map fun k : Nat => .int (k : Int))
/-- a property of the class, and its getter -/
structure PrD (K : PySem.W.Frag) (CL : Addr) (x q : Str) (st : Stmt) (p g : Addr) (d : FuncData) : Prop where
  p : PropOf K CL x p g
  f : FunP K x q st g d
section
variable {P : Program} {w : World} {K : PySem.W.Frag} {mg : Str → Option Value} {base : Heap} {f C CH CL : Addr} {fd : FuncData}
variable {fHi fHp fHc fHb : Addr} {dHi dHp dHc dHb : FuncData} {qa ga qb gb : Addr} {da db : FuncData}
def spLre (K : PySem.W.Frag) (C CH CL : Addr) : Sp := fun vs H Q _ => ∃ (l p h : Addr) (ns : List Str) (ss : List (Str × List Int)) (as : List Arm) (hs : List Stt) (s : Stt), vs = [.ref l] ∧ LeadAt K C CH CL H l p h ns ss as hs ∧ OkP ns ss as ∧ hs.getLast? = some s ∧ s.2.2.length = ns.length ∧ Bt s.2.2 ∧ ∀ v H', Same H H' → Dp K H' v (readyD as s.2.1 s.2.2) → Q v H'
abbrev nLre : List Str := ["self", "branches", "index", "branch"]
theorem scLre : FnScope nLre ["self"] (defScope sLre) := ⟨rfl, rfl, rfl, by decide +kernel, rfl, by decide +kernel, by decide +kernel⟩
theorem ok_lre {fF p3 g3 : Addr} {dF d3 : FuncData} (F : FunP K "ready" "Lead.ready" sLre f fd) (T : Mo mg) (TX : Txt K mg C) (X : LedC K mg CL) (HC : HisC K CH fHi fHp fHc fHb dHi dHp dHc dHb) (Pa : PrD K CL "place" "Lead.place" sLpl qa ga da) (Pb : PrD K CL "point" "Lead.point" sLpo qb gb db)
    (FF : FnP K "fits" sFi fF dF) (gF : mg "fits" = some (.ref fF)) (GF : FnOk P w K mg base CX0 3 fF dF ["branch", "place", "point"] (spFi K)) (P3 : PropOf K C "branches" p3 g3) (F3 : FunP K "branches" "Program.branches" sGb g3 d3) : FnOk P w K mg base CX0 4 f fd ["self"] (spLre K C CH CL) := by
  have H3 : FnOk P w K mg base CX0 1 g3 d3 ["self"] (spGet K C fun ns ss as v H => Dp K H v (armsD as)) := ok_gbranches F3 TX
  have b3 : Binds K d3 ["self"] [] := F3.bindsN fun _ _ _ _ _ _ us hl => match us, hl with | [_], _ => rfl
  have GA : FnOk P w K mg base CX0 2 ga da ["self"] (spLpl K C CH CL) := ok_lpl Pa.f X HC
  have bA : Binds K da ["self"] [] := Pa.f.bindsN fun _ _ _ _ _ _ us hl => match us, hl with | [_], _ => rfl
  have GB : FnOk P w K mg base CX0 2 gb db ["self"] (spLpo K C CH CL) := ok_lpo Pb.f X HC
  have bB : Binds K db ["self"] [] := Pb.f.bindsN fun _ _ _ _ _ _ us hl => match us, hl with | [_], _ => rfl
  have bF : Binds K dF ["branch", "place", "point"] [] := FF.bindsN fun _ _ _ _ _ _ us hl => match us, hl with | [_, _, _], _ => rfl
  refine F.ok scLre (fun vs H Q E h => ?_) (fun cdv A outer s H vs Q E hr h => ?_)
  · obtain ⟨l, p, h', ns, ss, as, hs, st, rfl, _⟩ := h
    rfl
  · obtain ⟨l, p, h', ns, ss, as, hs, st, rfl, g, ok, el, lx, bx, k⟩ := h
    have hr2 := hr.mono (show 2 ≤ 3 by decide)
    refine ⟨_, PSs.nox <| pss_cons (ps_set (i := 1) scLre.nd rfl (.inl rfl) (pe_prop (pe_fld (pv 0) rfl) TX.cl P3 H3 hr2 b3 .nil pass0 (by rfl)))
      <| pss_one (ps_ret (pe_callTy call_tuple_of (by rfl) T.tuple (by decide +kernel) (pa_cons (pe_lc (own := [("index", 2), ("branch", 3)]) (g := gTup K 2 (gCons (gName 2) (gCons (gName 3) gNil))) rfl scLre.nd (pi_enumT (by rfl) T.enum (pa_cons (pv 1) pa_nil)) (blkOk_by (N := nLre) (sc := defScope sLre) (by decide +kernel))
          (fun _ _ _ _ _ => pg_tup (by rfl) (pgs_cons (pg_name (i := 2) scLre.nd rfl (.inl rfl)) (pgs_cons (pg_name (i := 3) scLre.nd rfl (.inl rfl)) pgs_nil)))
          (fun _ _ _ _ _ => pts_one (pt_val (pe_call GF hr (by rfl) gF FF.kp bF .nil pass0 (pa_cons (pv 3) (pa_cons (pe_prop (pv 0) X.cl Pa.p GA hr bA .nil pass0 (by rfl)) (pa_cons (pe_prop (pv 0) X.cl Pb.p GB hr bB .nil pass0 (by rfl)) pa_nil))))))
          (fun _ _ _ _ _ => pv 2)) pa_nil))), ?_⟩
    obtain ⟨⟨dx, hl⟩, gp, gh⟩ := id g
    obtain ⟨dp, _, _, _, _, hp, _⟩ := id gp
    refine ⟨_, rfl, l, CL, dx, _, _, rfl, hl, X.cl, X.np, pfL_p _ _, p, dp, _, rfl, hp, p, ns, ss, as, rfl, gp, ok, fun v1 h1 => ?_⟩
    obtain ⟨c, cs, rfl, hc, hcs⟩ := rp_tup (.inl h1)
    have lc := dp_len hcs
    rw [List.length_map] at lc
    have a5 := ok.a.five
    refine ⟨_, rfl, c, _, rfl, hc, fun D nD => lc_it walk_enumT (fun i H' => Same H H' ∧ H' D = some (.lst ((readyS as st.2.1 st.2.2 i).map fun k : Nat => V.int (k : Int)))) ⟨same_new nD, upd_same⟩ (fun i H' _ ⟨s, _⟩ => Same.seqT s hc) ?_ ?_⟩
    · rintro i x H3 H4 hi ⟨s3, h3⟩ ⟨N, y, z, rfl, nN, rfl, ey, ez⟩
      cases ey
      obtain ⟨a, ea, hz⟩ := map_at hcs ez
      have ao := ok.a.arm a (List.mem_of_getElem? ea)
      rw [← lx] at ao
      have n3 := ok.n.three
      have s4 : Same H (upd H3 N (.tup [.int (i : Nat), z])) := s3.trans (same_new nN)
      have h4 := (same_new (o := .tup [.int (i : Nat), z]) nN) _ _ h3
      have g4 := g.same s4
      refine ⟨N, _, rfl, SqT.of upd_same, rfl, _, _, rfl, _, _, rfl, rfl, rfl, ?_⟩
      refine ⟨_, rfl, _, rfl, l, dx, _, rfl, s4 _ _ hl, l, p, h', ns, ss, as, hs, st, rfl, g4, el, ?_⟩
      refine ⟨_, rfl, l, dx, _, rfl, s4 _ _ hl, l, p, h', ns, ss, as, hs, st, rfl, g4, el, fun v hv => ?_⟩
      refine ⟨z, v, st.2.1, a, st.2.2, rfl, dp_same s4 _ hz, hv, ao, by omega, bx, fun H5 s5 => ⟨_, rfl, ?_⟩⟩
      have h5 := s5 _ _ h4
      have lr := ready_le as st.2.1 st.2.2 i
      by_cases hf : fitsS a st.2.1 st.2.2 = true
      · refine iteBT hf ?_
        refine ⟨_, rfl, _, h5, small1000 (by rw [List.length_map]; omega), fun q o e => ?_, ?_⟩
        · rw [upd_ne (ne_of_none e nD)]
          exact s5 _ _ (s4 _ _ e)
        · rw [upd_same, ready_snoc ea, if_pos hf, List.map_append]
          rfl
      · refine iteBF (Bool.eq_false_iff.mpr hf) ?_
        refine ⟨s4.trans s5, ?_⟩
        rw [ready_snoc ea, if_neg hf, List.append_nil]
        exact h5
    · rintro H3 ⟨s3, h3⟩
      rw [lc] at h3
      refine ⟨D, _, rfl, .inl ⟨SqL.of h3, fun q nq => ?_⟩⟩
      exact k _ _ (s3.trans (same_new nq)) (.tup (SqT.of upd_same) (dp_mapV (f := fun k : Nat => V.int (k : Int)) (g := fun k : Nat => PyData.int (k : Int)) (fun _ => .int _) _))
/-- how many branches ago -/
def spLag (K : PySem.W.Frag) (C CH CL : Addr) : Sp := fun vs H Q _ => ∃ (l p h : Addr) (ns : List Str) (ss : List (Str × List Int)) (as : List Arm) (hs : List Stt), vs = [.ref l] ∧ LeadAt K C CH CL H l p h ns ss as hs ∧ hs.length ≤ 900 ∧ ∀ H', Same H H' → Q (ixV (agS (hs.map Prod.snd))) H'
abbrev nLag : List Str := ["self", "states", "ago"]
theorem scLag : FnScope nLag ["self"] (defScope sLag) := ⟨rfl, rfl, rfl, by decide +kernel, rfl, by decide +kernel, by decide +kernel⟩
theorem ok_lag (F : FunP K "again" "Lead.again" sLag f fd) (T : Mo mg) (gr : mg "range" = none) (X : LedC K mg CL) (cl : Cls K CH) (no : NoAttr K CH "states") : FnOk P w K mg base CX0 1 f fd ["self"] (spLag K C CH CL) := by
  refine F.ok scLag (fun vs H Q E h => ?_) (fun cdv A outer s H vs Q E hr h => ?_)
  · obtain ⟨l, p, h', ns, ss, as, hs, rfl, _⟩ := h
    rfl
  · obtain ⟨l, p, h', ns, ss, as, hs, rfl, ⟨⟨dx, hl⟩, gp, gh⟩, l9, k⟩ := h
    refine ⟨_, PSs.nox <| pss_cons (ps_set (i := 1) scLag.nd rfl (.inl rfl) (pe_fld (pe_fld (pv 0) rfl) rfl))
      <| pss_cons (ps_for PassesOwn.never rfl (pi_range2 (by rfl) gr (pa_cons pe_int (pa_cons (pe_callB call_len (by rfl) T.len PySem.boot_len (pa_cons (pv 1) pa_nil)) pa_nil))) (pg_name (i := 2) scLag.nd rfl (.inl rfl))
          (pss_one (ps_if (pt_cmpR (op_eqP hr.units) (pe_slice (r := rSlTR K) sl_tupR (pe_ix (r := rIxT K) ix_tup (pv 1) (pe_op op_sub (pe_un un_neg pe_int) (pv 2)) (fun _ _ => rfl)) (po_some pe_int) po_none)
              (pe_slice (r := rSlTR K) sl_tupR (pe_ix (r := rIxT K) ix_tup (pv 1) (pe_un un_neg pe_int) (fun _ _ => rfl)) (po_some pe_int) po_none) (nomark _)) (pss_one (ps_ret (pv 2))) pss_nil)))
      <| pss_one (ps_ret pe_non), ?_⟩
    obtain ⟨d, u, hh, hu⟩ := id gh
    obtain ⟨t, xs, rfl, ht, hxs⟩ := rp_tup (.inl hu)
    have lx := dp_len hxs
    rw [List.length_map] at lx
    refine ⟨_, rfl, l, CL, dx, _, _, rfl, hl, X.cl, X.nh, pfL_h _ _, h', CH, d, _, _, rfl, hh, cl, no, rfl, ?_⟩
    refine ⟨_, rfl, _, _, rfl, .inr ⟨_, ht, rfl⟩, 1, (xs.length : Int), rfl, ⟨by decide, by decide, by omega, by omega⟩, for_range (lo := 1) (n := ((xs.length : Int) - 1).toNat) (fun i σ H2 => ∃ x2, σ = [some (.ref l), some (.ref t), x2] ∧ Same H H2 ∧ ∀ k, k < i → (hs.map Prod.snd)[(hs.map Prod.snd).length - 2 - k]? ≠ (hs.map Prod.snd)[(hs.map Prod.snd).length - 1]?) ⟨_, rfl, Same.refl H, fun k hk => absurd hk (Nat.not_lt_zero k)⟩ ?_ ?_⟩
    · rintro i σ H2 hi ⟨x2, rfl, s2, n2⟩
      have hi2 : i + 1 < hs.length := by omega
      obtain ⟨sa, ea⟩ : ∃ sa, hs[hs.length - 2 - i]? = some sa := ⟨_, List.getElem?_eq_getElem (by omega)⟩
      obtain ⟨sb, eb⟩ : ∃ sb, hs[hs.length - 1]? = some sb := ⟨_, List.getElem?_eq_getElem (by omega)⟩
      obtain ⟨va, eva, hva⟩ := dp_at (dp_sameAll s2 _ hxs) ea
      obtain ⟨vb, evb, hvb⟩ := dp_at (dp_sameAll s2 _ hxs) eb
      obtain ⟨qa, ra, rfl, hqa, hra⟩ := st_at hva
      obtain ⟨qb, rb, rfl, hqb, hrb⟩ := st_at hvb
      have aa : atI xs (-1 - (1 + (i : Int))) = some (.ref qa) := by
        rw [show (-1 : Int) - (1 + (i : Int)) = -1 - ((i + 1 : Nat) : Int) by omega]
        exact atI_neg (by omega) (by rw [lx, show hs.length - 1 - (i + 1) = hs.length - 2 - i by omega]; exact eva)
      have ab : atI xs (-1) = some (.ref qb) := atI_neg (j := 0) (by omega) (by rw [lx]; exact evb)
      have ht2 := Same.seqT s2 ht
      refine ⟨_, rfl, _, rfl, _, rfl, _, _, rfl, rfl, t, _, _, _, rfl, rfl, ht2, aa, _, rfl, qa, _, rfl, hqa, fun q1 H3 s3 hq1 => ?_⟩
      rw [cut_from1] at hq1
      refine ⟨_, rfl, _, rfl, t, _, _, _, rfl, rfl, Same.seqT s3 ht2, ab, _, rfl, qb, _, rfl, Same.seqT s3 hqb, fun q2 H4 s4 hq2 => ?_⟩
      rw [cut_from1] at hq2
      refine ⟨plD sa.2, plD sb.2, .tup (Same.seqT s4 hq1) (.cons (.str _) (.cons (dp_same s4 _ (dp_same s3 _ hra)) .nil)), .tup hq2 (.cons (.str _) (.cons (dp_same s4 _ (dp_same s3 _ hrb)) .nil)), plain_pl _, plain_pl _, Nat.le_trans (depth_pl _) (by decide), _, rfl, ?_⟩
      rw [eqv_pl]
      have e1 : (hs.map Prod.snd)[(hs.map Prod.snd).length - 2 - i]? = some sa.2 := by rw [List.getElem?_map, List.length_map, ea]; rfl
      have e2 : (hs.map Prod.snd)[(hs.map Prod.snd).length - 1]? = some sb.2 := by rw [List.getElem?_map, List.length_map, eb]; rfl
      have s24 := s2.trans (s3.trans s4)
      refine ite2 (fun hc => ?_) (fun hc => ?_)
      · have hc' := of_decide_eq_true hc
        have k0 := k H4 s24
        rw [ag_some (j := i) (by rw [List.length_map]; exact hi2) n2 (by rw [e1, e2, hc'])] at k0
        refine ⟨_, rfl, ?_⟩
        rw [show (1 : Int) + (i : Int) = ((i + 1 : Nat) : Int) by omega]
        exact k0
      · have hc' : ¬ sa.2 = sb.2 := fun z => hc (decide_eq_true z)
        refine ⟨_, rfl, s24, fun k hk => ?_⟩
        rcases Nat.lt_or_eq_of_le (Nat.le_of_lt_succ hk) with hk | rfl
        · exact n2 k hk
        · rw [e1, e2]
          exact fun z => hc' (Option.some.inj z)
    · rintro σ H2 ⟨x2, rfl, s2, n2⟩
      have k0 := k H2 s2
      rw [ag_none (fun k hk => n2 k (by rw [List.length_map] at hk; omega))] at k0
      exact k0
/-- a branch is taken -/
def spLt (K : PySem.W.Frag) (C CH CL CS : Addr) : Sp := fun vs H Q E => ∃ (l p h : Addr) (i : Nat) (ns : List Str) (ss : List (Str × List Int)) (as : List Arm) (hs : List Stt) (s : Stt) (a : Arm), vs = [.ref l, .int i] ∧ LeadAt K C CH CL H l p h ns ss as hs ∧ OkP ns ss as ∧ as[i]? = some a ∧ hs.getLast? = some s ∧ s.2.2.length = ns.length ∧ Bt s.2.2 ∧ hs.length ≤ 900 ∧
  (fitsS a s.2.1 s.2.2 = true → ∀ v H', Fh CH H H' → ButH h H H' → LeadAt K C CH CL H' l p h ns ss as (hs ++ [(some i, a.tgt, turnS a s.2.2)]) → Dp K H' v (fD (turnS a s.2.2)) → Q v H') ∧
  (fitsS a s.2.1 s.2.2 = false → ∀ H1 dd, Same H H1 → H1 dd = none → E (.ref CS) (some dd) (upd H1 dd (.xd [("index", .int (i : Nat))])))
abbrev nLt : List Str := ["self", "index", "branch", "place", "point"]
theorem scLt : FnScope nLt ["self", "index"] (defScope sLt) := ⟨rfl, rfl, rfl, by decide +kernel, rfl, by decide +kernel, by decide +kernel⟩
theorem ok_lt {fK fF fB p3 g3 CS WS fS : Addr} {dK dF dB d3 : FuncData} (F : FunP K "take" "Lead.take" sLt f fd) (T : Mo mg) (TX : Txt K mg C) (X : LedC K mg CL) (HC : HisC K CH fHi fHp fHc fHb dHi dHp dHc dHb) (Pa : PrD K CL "place" "Lead.place" sLpl qa ga da) (Pb : PrD K CL "point" "Lead.point" sLpo qb gb db)
    (FK : FnP K "check_index" sCk fK dK) (gK : mg "check_index" = some (.ref fK)) (GK : FnOk P w K mg base CX0 3 fK dK ["program", "index"] (spCkR K C))
    (FF : FnP K "fits" sFi fF dF) (gF : mg "fits" = some (.ref fF)) (GF : FnOk P w K mg base CX0 3 fF dF ["branch", "place", "point"] (spFi K))
    (FB : FnP K "state_behind" sBe fB dB) (gB : mg "state_behind" = some (.ref fB)) (GB : FnOk P w K mg base CX0 3 fB dB ["branch", "point"] (spBe K))
    (P3 : PropOf K C "branches" p3 g3) (F3 : FunP K "branches" "Program.branches" sGb g3 d3) (XE : ErrA P K mg "Stuck" CS WS fS "index") : FnOk P w K mg base (L2.CX P w) 4 f fd ["self", "index"] (spLt K C CH CL CS) := by
  have H3 : FnOk P w K mg base CX0 1 g3 d3 ["self"] (spGet K C fun ns ss as v H => Dp K H v (armsD as)) := ok_gbranches F3 TX
  have b3 : Binds K d3 ["self"] [] := F3.bindsN fun _ _ _ _ _ _ us hl => match us, hl with | [_], _ => rfl
  have GP : FnOk P w K mg base CX0 2 ga da ["self"] (spLpl K C CH CL) := ok_lpl Pa.f X HC
  have bP : Binds K da ["self"] [] := Pa.f.bindsN fun _ _ _ _ _ _ us hl => match us, hl with | [_], _ => rfl
  have GQ : FnOk P w K mg base CX0 2 gb db ["self"] (spLpo K C CH CL) := ok_lpo Pb.f X HC
  have bQ : Binds K db ["self"] [] := Pb.f.bindsN fun _ _ _ _ _ _ us hl => match us, hl with | [_], _ => rfl
  have bK : Binds K dK ["program", "index"] [] := FK.bindsN fun _ _ _ _ _ _ us hl => match us, hl with | [_, _], _ => rfl
  have bF : Binds K dF ["branch", "place", "point"] [] := FF.bindsN fun _ _ _ _ _ _ us hl => match us, hl with | [_, _, _], _ => rfl
  have bB : Binds K dB ["branch", "point"] [] := FB.bindsN fun _ _ _ _ _ _ us hl => match us, hl with | [_, _], _ => rfl
  have GC : FnOk P w K mg base CX0 1 fHc dHc ["self", "state"] (spHc K CH) := ok_hc HC.fc HC.cl HC.no
  have bC : Binds K dHc ["self", "state"] [] := HC.fc.bindsN fun _ _ _ _ _ _ us hl => match us, hl with | [_, _], _ => rfl
  refine okX F scLt (fun vs H Q E h => ?_) (fun cdv A outer s H vs Q E hr h => ?_)
  · obtain ⟨l, p, h', i, ns, ss, as, hs, st, a, rfl, _⟩ := h
    rfl
  · obtain ⟨l, p, h', i, ns, ss, as, hs, st, a, rfl, g, ok, ea, el, lx, bx, l9, kY, kN⟩ := h
    have hr1 := hr.mono (show 1 ≤ 3 by decide)
    have hr2 := hr.mono (show 2 ≤ 3 by decide)
    refine ⟨_, pss_cons (ps_expr (pe_call GK hr (by rfl) gK FK.kp bK .nil pass0 (pa_cons (pe_fld (pv 0) rfl) (pa_cons (pv 1) pa_nil))))
      <| pss_cons (ps_set (i := 2) scLt.nd rfl (.inl rfl) (pe_ix (r := rIxT K) ix_tup (pe_prop (pe_fld (pv 0) rfl) TX.cl P3 H3 hr2 b3 .nil pass0 (by rfl)) (pv 1) (fun _ _ => rfl)))
      <| pss_cons (ps_if (pt_not (pt_val (pe_call GF hr (by rfl) gF FF.kp bF .nil pass0 (pa_cons (pv 2) (pa_cons (pe_prop (pv 0) X.cl Pa.p GP hr bP .nil pass0 (by rfl)) (pa_cons (pe_prop (pv 0) X.cl Pb.p GQ hr bQ .nil pass0 (by rfl)) pa_nil))))))
          (pss_one (ps_raise rfl (takes_of rfl rfl rfl rfl) (pmk_err rootA XE.e (raises_own XE.sub XE.ty) hr2 XE.g (by rfl) (pv 1)))) pss_nil)
      <| pss_cons (ps_asg (pe_call GB hr (by rfl) gB FB.kp bB .nil pass0 (pa_cons (pv 2) (pa_cons (pe_prop (pv 0) X.cl Pb.p GQ hr bQ .nil pass0 (by rfl)) pa_nil))) (pg_tup (by rfl) (pgs_cons (pg_name (i := 3) scLt.nd rfl (.inl rfl)) (pgs_cons (pg_name (i := 4) scLt.nd rfl (.inl rfl)) pgs_nil))))
      <| pss_cons (ps_expr (pe_meth (pe_fld (pv 0) rfl) HC.cl HC.mc GC hr1 bC .nil pass0 (pa_cons (pe_tupR (pa_cons (pv 1) (pa_cons (pv 3) (pa_cons (pv 4) pa_nil)))) pa_nil)))
      <| pss_one (ps_ret (pv 4)), ?_⟩
    have hi : i < as.length := (List.getElem?_eq_some_iff.mp ea).1
    have n3 := ok.n.three
    obtain ⟨⟨dx, hl⟩, gp, gh⟩ := id g
    refine ⟨_, rfl, l, CL, dx, _, _, rfl, hl, X.cl, X.np, pfL_p _ _, _, rfl, p, i, ns, ss, as, rfl, gp, ok, hi, fun H1 s1 => ?_⟩
    have g1 := g.same s1
    have hl1 := s1 _ _ hl
    have gp1 := gp.same s1
    obtain ⟨dp, _, _, _, _, hp, _⟩ := id gp1
    refine ⟨_, rfl, l, CL, dx, _, _, rfl, hl1, X.cl, X.np, pfL_p _ _, p, dp, _, rfl, hp, p, ns, ss, as, rfl, gp1, ok, fun v1 h1 => ?_⟩
    obtain ⟨c, cs, rfl, hc, hcs⟩ := rp_tup (.inl h1)
    have lc := dp_len hcs
    rw [List.length_map] at lc
    have e1 : cs[i]? = some (cs[i]'(by omega)) := List.getElem?_eq_getElem (by omega)
    obtain ⟨a', ea', hz1⟩ := map_at hcs e1
    rw [ea] at ea'
    cases ea'
    have ao := ok.a.arm a (List.mem_of_getElem? ea)
    rw [← lx] at ao
    refine ⟨_, rfl, c, _, i, _, rfl, rfl, hc, atI_nat e1, ?_⟩
    refine ⟨_, rfl, _, rfl, l, dx, _, rfl, hl1, l, p, h', ns, ss, as, hs, st, rfl, g1, el, ?_⟩
    refine ⟨_, rfl, l, dx, _, rfl, hl1, l, p, h', ns, ss, as, hs, st, rfl, g1, el, fun v hv => ?_⟩
    refine ⟨_, v, st.2.1, a, st.2.2, rfl, hz1, hv, ao, by omega, bx, fun H2 s2 => ⟨_, rfl, ?_⟩⟩
    have s02 := s1.trans s2
    cases hf : fitsS a st.2.1 st.2.2 with
    | false =>
      refine iteT ?_
      exact ⟨_, rfl, fun dd nd => kN hf H2 dd s02 nd⟩
    | true =>
      refine iteF ?_
      have g2 := g.same s02
      obtain ⟨⟨dx2, hl2⟩, gp2, gh2⟩ := id g2
      refine ⟨_, rfl, _, rfl, l, dx2, _, rfl, hl2, l, p, h', ns, ss, as, hs, st, rfl, g2, el, fun v2 hv2 => ?_⟩
      refine ⟨_, v2, a, st.2.2, rfl, dp_same s2 _ hz1, hv2, ao, by omega, bx, fun q r H3 s3 hq hr3 => ?_⟩
      refine ⟨q, _, rfl, hq, rfl, _, _, rfl, _, _, rfl, rfl, ?_⟩
      have g3' := g2.same s3
      obtain ⟨⟨dx3, hl3⟩, gp3, gh3⟩ := id g3'
      obtain ⟨d, u, hh, hu⟩ := id gh3
      refine ⟨_, rfl, l, CL, dx3, _, _, rfl, hl3, X.cl, X.nh, pfL_h _ _, h', d, _, rfl, hh, rfl, _, rfl, _, rfl, _, rfl, (show 3 ≤ 1000 by decide), fun t H4 n4 => ?_⟩
      have hr4 := dp_same n4.2.2 _ hr3
      refine ⟨h', .ref t, hs, (some i, a.tgt, turnS a st.2.2), rfl, gh3.same n4.2.2, .tup (SqT.of n4.2.1) (.cons (.int _) (.cons (.str _) (.cons hr4 .nil))), l9, fun H5 f5 b5 g5 => ?_⟩
      have s24 := s02.trans (s3.trans n4.2.2)
      refine ⟨_, rfl, kY hf r H5 ((fh_same s24).trans f5) (butH_trans (butH_same s24) b5) ((g.same s24).step f5 b5 g5) (dp_fh f5 _ (nol_f _) hr4)⟩
/-- the last branch is taken back -/
def spLu (K : PySem.W.Frag) (C CH CL CN : Addr) : Sp := fun vs H Q E => ∃ (l p h : Addr) (ns : List Str) (ss : List (Str × List Int)) (as : List Arm) (hs : List Stt), vs = [.ref l] ∧ LeadAt K C CH CL H l p h ns ss as hs ∧ hs.length ≤ 900 ∧ (hs.length = 1 → E (.ref CN) none H) ∧ (hs.length ≠ 1 → ∀ H', Fh CH H H' → ButH h H H' → LeadAt K C CH CL H' l p h ns ss as hs.dropLast → Q .non H')
theorem scLu : FnScope ["self"] ["self"] (defScope sLu) := ⟨rfl, rfl, rfl, by decide +kernel, rfl, by decide +kernel, by decide +kernel⟩
theorem ok_lu {CN WN fN : Addr} (F : FunP K "undo" "Lead.undo" sLu f fd) (T : Mo mg) (X : LedC K mg CL) (HC : HisC K CH fHi fHp fHc fHb dHi dHp dHc dHb) (XE : Err0 P K mg "NothingToUndo" CN WN fN) : FnOk P w K mg base (L2.CX P w) 3 f fd ["self"] (spLu K C CH CL CN) := by
  have GB : FnOk P w K mg base (L2.CX P w) 2 fHb dHb ["self"] (spHb K CH CN) := ok_hb HC.fb HC.cl HC.no T XE
  have bB : Binds K dHb ["self"] [] := HC.fb.bindsN fun _ _ _ _ _ _ us hl => match us, hl with | [_], _ => rfl
  refine okX F scLu (fun vs H Q E h => ?_) (fun cdv A outer s H vs Q E hr h => ?_)
  · obtain ⟨l, p, h', ns, ss, as, hs, rfl, _⟩ := h
    rfl
  · obtain ⟨l, p, h', ns, ss, as, hs, rfl, g, l9, kN, kY⟩ := h
    refine ⟨_, pss_one (ps_expr (pe_meth0 (E := E) (pe_fld (pv 0) rfl) HC.cl HC.mb GB hr bB .nil (passes_call (takes_of rfl rfl rfl rfl) fun _ _ _ _ h => h))), ?_⟩
    obtain ⟨⟨dx, hl⟩, gp, gh⟩ := id g
    obtain ⟨d, u, hh, hu⟩ := id gh
    exact ⟨_, rfl, l, CL, dx, _, _, rfl, hl, X.cl, X.nh, pfL_h _ _, h', d, _, rfl, hh, rfl, h', hs, rfl, gh, l9, kN, fun n H' f b g' => kY n H' f b (g.step f b g')⟩
/-- a lead is made -/
def spLi (K : PySem.W.Frag) (C CH CL : Addr) : Sp := fun vs H Q _ => ∃ (H0 : Hp) (l dx p : Addr) (z : Str) (v : V) (xs : List Int) (ns : List Str) (ss : List (Str × List Int)) (as : List Arm), vs = [.ref l, .ref p, .str z, v] ∧ Same H0 H ∧ H0 l = none ∧ H l = some (.ins CL dx []) ∧ ProgAt K C H0 p ns ss as ∧ OkP ns ss as ∧ z ∈ placesS ss as ∧ Dp K H0 v (fD xs) ∧ xs.length = ns.length ∧
  ∀ h H', Same H0 H' → H0 h = none → LeadAt K C CH CL H' l p h ns ss as [(none, z, xs)] → Q .non H'
theorem scLi : FnScope ["self", "program", "place", "point"] ["self", "program", "place", "point"] (defScope sLi) := ⟨rfl, rfl, rfl, by decide +kernel, rfl, by decide +kernel, by decide +kernel⟩
theorem ok_li {f1 f2 f3 : Addr} {d1 d2 d3 : FuncData} (F : FunP K "__init__" "Lead.__init__" sLi f fd) (X : LedC K mg CL) (HC : HisC K CH fHi fHp fHc fHb dHi dHp dHc dHb) (gH : mg "History" = some (.ref CH))
    (F1 : FnP K "check_program" sCg f1 d1) (g1 : mg "check_program" = some (.ref f1)) (G1 : FnOk P w K mg base CX0 1 f1 d1 ["program"] (spCg K C))
    (F2 : FnP K "check_place" sCl f2 d2) (g2 : mg "check_place" = some (.ref f2)) (G2 : FnOk P w K mg base CX0 3 f2 d2 ["program", "place"] (spCl K C))
    (F3 : FnP K "check_point" sCo f3 d3) (g3 : mg "check_point" = some (.ref f3)) (G3 : FnOk P w K mg base CX0 3 f3 d3 ["program", "point"] (spCo K C)) : FnOk P w K mg base CX0 4 f fd ["self", "program", "place", "point"] (spLi K C CH CL) := by
  have b1 : Binds K d1 ["program"] [] := F1.bindsN fun _ _ _ _ _ _ us hl => match us, hl with | [_], _ => rfl
  have b2 : Binds K d2 ["program", "place"] [] := F2.bindsN fun _ _ _ _ _ _ us hl => match us, hl with | [_, _], _ => rfl
  have b3 : Binds K d3 ["program", "point"] [] := F3.bindsN fun _ _ _ _ _ _ us hl => match us, hl with | [_, _], _ => rfl
  have GH : FnOk P w K mg base CX0 1 fHi dHi ["self", "state"] (spHi K CH) := ok_hi HC.fi HC.cl HC.no
  have bH : Binds K dHi ["self", "state"] [] := HC.fi.bindsN fun _ _ _ _ _ _ us hl => match us, hl with | [_, _], _ => rfl
  refine F.ok scLi (fun vs H Q E h => ?_) (fun cdv A outer s H vs Q E hr h => ?_)
  · obtain ⟨H0, l, dx, p, z, v, xs, ns, ss, as, rfl, _⟩ := h
    rfl
  · obtain ⟨H0, l, dx, p, z, v, xs, ns, ss, as, rfl, s0, n0, hl, gp, ok, hz, hv, lx, k⟩ := h
    have hr1 := hr.mono (show 1 ≤ 3 by decide)
    have hr2 := hr.mono (show 2 ≤ 3 by decide)
    refine ⟨_, PSs.nox <| pss_cons (ps_expr (pe_call G1 hr1 (by rfl) g1 F1.kp b1 .nil pass0 (pa_cons (pv 1) pa_nil)))
      <| pss_cons (ps_expr (pe_call G2 hr (by rfl) g2 F2.kp b2 .nil pass0 (pa_cons (pv 1) (pa_cons (pv 2) pa_nil))))
      <| pss_cons (ps_expr (pe_call G3 hr (by rfl) g3 F3.kp b3 .nil pass0 (pa_cons (pv 1) (pa_cons (pv 3) pa_nil))))
      <| pss_cons (ps_fld (pv 0) (pv 1) rfl)
      <| pss_one (ps_fld (pv 0) (pe_make HC.mkr GH hr2 (by rfl) gH bH .nil pass0 (pa_cons (pe_tupR (pa_cons pe_non (pa_cons (pv 2) (pa_cons (pv 3) pa_nil)))) pa_nil)) rfl), ?_⟩
    refine ⟨_, rfl, p, ns, ss, as, rfl, gp.same s0, ?_⟩
    refine ⟨_, rfl, _, rfl, p, z, ns, ss, as, rfl, gp.same s0, ok, hz, ?_⟩
    refine ⟨_, rfl, _, rfl, p, v, xs, ns, ss, as, rfl, gp.same s0, ok, dp_same s0 _ hv, lx, fun H1 s1 => ?_⟩
    have hl1 := s1 _ _ hl
    refine ⟨_, rfl, _, rfl, l, CL, dx, _, rfl, hl1, X.cl, X.np, (by decide), ?_⟩
    have sv : Same H0 (upd H1 l (.ins CL dx (putF "_program" (.ref p) []))) := same_put (s0.trans s1) n0
    generalize hG : upd H1 l (.ins CL dx (putF "_program" (.ref p) [])) = H2 at sv
    have hl2 : H2 l = some (.ins CL dx (putF "_program" (.ref p) [])) := by
      rw [← hG]
      exact upd_same
    clear hG
    refine ⟨_, rfl, _, rfl, (show 3 ≤ 1000 by decide), fun t H3 n3 => ?_⟩
    have s3 := sv.trans n3.2.2
    refine fun x dy nx ndy nex => ?_
    have s4 : Same H3 (upd (upd H3 dy (.own x)) x (.ins CH dy [])) := fun q o e => by
      rw [upd_ne (ne_of_none e nx), upd_ne (ne_of_none e ndy)]
      exact e
    refine ⟨H3, x, dy, .ref t, (none, z, xs), rfl, s4, nx, upd_same, .tup (SqT.of n3.2.1) (.cons .non (.cons (.str _) (.cons (dp_same s3 _ hv) .nil))), fun H5 s5 g5 b5 => ⟨rfl, ?_⟩⟩
    have hl5 := s5 _ _ (n3.2.2 _ _ hl2)
    refine ⟨_, rfl, l, CL, dx, _, rfl, hl5, X.cl, X.nh, Nat.lt_of_le_of_lt (putF_len _ _ _) (by decide), ?_⟩
    have n5 := s3.trans s5
    have hx0 : H0 x = none := by
      cases e : H0 x with
      | none => rfl
      | some o =>
        have e2 := s3 _ _ e
        rw [nx] at e2
        cases e2
    have nxl : x ≠ l := fun e => by
      have e2 := n3.2.2 _ _ hl2
      rw [← e, nx] at e2
      cases e2
    have s6 : Same H0 (upd H5 l (.ins CL dx (pfL (.ref p) (.ref x)))) := same_put n5 n0
    exact k x _ s6 hx0 ⟨⟨dx, upd_same⟩, gp.same s6, g5.ko (ko_ins hl5) fun o e => by rw [upd_ne nxl]; exact e⟩
end
end Pg
set_option Elab.async false
set_option linter.all false
set_option maxRecDepth 100000
set_option maxHeartbeats 8000000
namespace Pg
open PySem PySem.Spec PyProof.Rows L2 Gd Rl Te Nu TL Ow Fx Hy StX
section
variable {P : Program} {w : World} {K : PySem.W.Frag} {mg : Str → Option Value} {base : Heap} {f C CH CL : Addr} {fd : FuncData}
variable {fHi fHp fHc fHb : Addr} {dHi dHp dHc dHb : FuncData} {qa ga qb gb : Addr} {da db : FuncData}
/-- a branch is taken, or what is none -/
def spLtX (K : PySem.W.Frag) (C CH CL CS CI : Addr) : Sp := fun vs H Q E => ∃ (l p h : Addr) (u : V) (d : PyData) (ns : List Str) (ss : List (Str × List Int)) (as : List Arm) (hs : List Stt) (s : Stt), vs = [.ref l, u] ∧ LeadAt K C CH CL H l p h ns ss as hs ∧ OkP ns ss as ∧ Rp K H u d ∧ okD d = true ∧ hs.getLast? = some s ∧ s.2.2.length = ns.length ∧ Bt s.2.2 ∧ hs.length ≤ 900 ∧
  (ixB as.length d = false → Out E H CI u) ∧ ∀ (i : Nat) (a : Arm), d = .int i → as[i]? = some a →
  (fitsS a s.2.1 s.2.2 = true → ∀ v H', Fh CH H H' → ButH h H H' → LeadAt K C CH CL H' l p h ns ss as (hs ++ [(some i, a.tgt, turnS a s.2.2)]) → Dp K H' v (fD (turnS a s.2.2)) → Q v H') ∧
  (fitsS a s.2.1 s.2.2 = false → ∀ H1 dd, Same H H1 → H1 dd = none → E (.ref CS) (some dd) (upd H1 dd (.xd [("index", .int (i : Nat))])))
theorem ok_ltX {fK fF fB p3 g3 CS WS fS CI : Addr} {dK dF dB d3 : FuncData} (F : FunP K "take" "Lead.take" sLt f fd) (T : Mo mg) (TX : Txt K mg C) (X : LedC K mg CL) (HC : HisC K CH fHi fHp fHc fHb dHi dHp dHc dHb) (Pa : PrD K CL "place" "Lead.place" sLpl qa ga da) (Pb : PrD K CL "point" "Lead.point" sLpo qb gb db)
    (FK : FnP K "check_index" sCk fK dK) (gK : mg "check_index" = some (.ref fK)) (GK : FnOk P w K mg base (L2.CX P w) 4 fK dK ["program", "index"] (spCk K C CI))
    (FF : FnP K "fits" sFi fF dF) (gF : mg "fits" = some (.ref fF)) (GF : FnOk P w K mg base CX0 3 fF dF ["branch", "place", "point"] (spFi K))
    (FB : FnP K "state_behind" sBe fB dB) (gB : mg "state_behind" = some (.ref fB)) (GB : FnOk P w K mg base CX0 3 fB dB ["branch", "point"] (spBe K))
    (P3 : PropOf K C "branches" p3 g3) (F3 : FunP K "branches" "Program.branches" sGb g3 d3) (XE : ErrA P K mg "Stuck" CS WS fS "index") : FnOk P w K mg base (L2.CX P w) 5 f fd ["self", "index"] (spLtX K C CH CL CS CI) := by
  have H3 : FnOk P w K mg base CX0 1 g3 d3 ["self"] (spGet K C fun ns ss as v H => Dp K H v (armsD as)) := ok_gbranches F3 TX
  have b3 : Binds K d3 ["self"] [] := F3.bindsN fun _ _ _ _ _ _ us hl => match us, hl with | [_], _ => rfl
  have GP : FnOk P w K mg base CX0 2 ga da ["self"] (spLpl K C CH CL) := ok_lpl Pa.f X HC
  have bP : Binds K da ["self"] [] := Pa.f.bindsN fun _ _ _ _ _ _ us hl => match us, hl with | [_], _ => rfl
  have GQ : FnOk P w K mg base CX0 2 gb db ["self"] (spLpo K C CH CL) := ok_lpo Pb.f X HC
  have bQ : Binds K db ["self"] [] := Pb.f.bindsN fun _ _ _ _ _ _ us hl => match us, hl with | [_], _ => rfl
  have bK : Binds K dK ["program", "index"] [] := FK.bindsN fun _ _ _ _ _ _ us hl => match us, hl with | [_, _], _ => rfl
  have bF : Binds K dF ["branch", "place", "point"] [] := FF.bindsN fun _ _ _ _ _ _ us hl => match us, hl with | [_, _, _], _ => rfl
  have bB : Binds K dB ["branch", "point"] [] := FB.bindsN fun _ _ _ _ _ _ us hl => match us, hl with | [_, _], _ => rfl
  have GC : FnOk P w K mg base CX0 1 fHc dHc ["self", "state"] (spHc K CH) := ok_hc HC.fc HC.cl HC.no
  have bC : Binds K dHc ["self", "state"] [] := HC.fc.bindsN fun _ _ _ _ _ _ us hl => match us, hl with | [_, _], _ => rfl
  refine okX F scLt (fun vs H Q E h => ?_) (fun cdv A outer s H vs Q E hr h => ?_)
  · obtain ⟨l, p, h', u0, d0, ns, ss, as, hs, st, rfl, _⟩ := h
    rfl
  · obtain ⟨l, p, h', u0, d0, ns, ss, as, hs, st, rfl, g, ok, hu0, od0, el, lx, bx, l9, kI, kk⟩ := h
    have hr1 := hr.mono (show 1 ≤ 4 by decide)
    have hr2 := hr.mono (show 2 ≤ 4 by decide)
    have hr3 := hr.mono (show 3 ≤ 4 by decide)
    refine ⟨_, pss_cons (ps_expr (pe_callS GK hr (by rfl) gK FK.kp bK (fun σ => passAt (takes_of rfl rfl rfl rfl) σ) (pa_cons (pe_fld (pv 0) rfl) (pa_cons (pv 1) pa_nil))))
      <| pss_cons (ps_set (i := 2) scLt.nd rfl (.inl rfl) (pe_ix (r := rIxT K) ix_tup (pe_prop (pe_fld (pv 0) rfl) TX.cl P3 H3 hr2 b3 .nil pass0 (by rfl)) (pv 1) (fun _ _ => rfl)))
      <| pss_cons (ps_if (pt_not (pt_val (pe_call GF hr3 (by rfl) gF FF.kp bF .nil pass0 (pa_cons (pv 2) (pa_cons (pe_prop (pv 0) X.cl Pa.p GP hr3 bP .nil pass0 (by rfl)) (pa_cons (pe_prop (pv 0) X.cl Pb.p GQ hr3 bQ .nil pass0 (by rfl)) pa_nil))))))
          (pss_one (ps_raise rfl (takes_of rfl rfl rfl rfl) (pmk_err rootA XE.e (raises_own XE.sub XE.ty) hr2 XE.g (by rfl) (pv 1)))) pss_nil)
      <| pss_cons (ps_asg (pe_call GB hr3 (by rfl) gB FB.kp bB .nil pass0 (pa_cons (pv 2) (pa_cons (pe_prop (pv 0) X.cl Pb.p GQ hr3 bQ .nil pass0 (by rfl)) pa_nil))) (pg_tup (by rfl) (pgs_cons (pg_name (i := 3) scLt.nd rfl (.inl rfl)) (pgs_cons (pg_name (i := 4) scLt.nd rfl (.inl rfl)) pgs_nil))))
      <| pss_cons (ps_expr (pe_meth (pe_fld (pv 0) rfl) HC.cl HC.mc GC hr1 bC .nil pass0 (pa_cons (pe_tupR (pa_cons (pv 1) (pa_cons (pv 3) (pa_cons (pv 4) pa_nil)))) pa_nil)))
      <| pss_one (ps_ret (pv 4)), ?_⟩
    have n3 := ok.n.three
    obtain ⟨⟨dx, hl⟩, gp, gh⟩ := id g
    refine ⟨_, rfl, l, CL, dx, _, _, rfl, hl, X.cl, X.np, pfL_p _ _, _, rfl, p, u0, d0, ns, ss, as, rfl, gp, ok, hu0, od0, (fun hb H1 s1 => ?_), kI⟩
    obtain ⟨i, rfl, hi⟩ := ix_is hb
    cases (rp_dp hu0 fun _ q => nomatch q)
    obtain ⟨a, ea⟩ : ∃ a, as[i]? = some a := ⟨_, List.getElem?_eq_getElem hi⟩
    obtain ⟨kY, kN⟩ := kk i a rfl ea
    have g1 := g.same s1
    have hl1 := s1 _ _ hl
    have gp1 := gp.same s1
    obtain ⟨dp, _, _, _, _, hp, _⟩ := id gp1
    refine ⟨_, rfl, l, CL, dx, _, _, rfl, hl1, X.cl, X.np, pfL_p _ _, p, dp, _, rfl, hp, p, ns, ss, as, rfl, gp1, ok, fun v1 h1 => ?_⟩
    obtain ⟨c, cs, rfl, hc, hcs⟩ := rp_tup (.inl h1)
    have lc := dp_len hcs
    rw [List.length_map] at lc
    have e1 : cs[i]? = some (cs[i]'(by omega)) := List.getElem?_eq_getElem (by omega)
    obtain ⟨a', ea', hz1⟩ := map_at hcs e1
    rw [ea] at ea'
    cases ea'
    have ao := ok.a.arm a (List.mem_of_getElem? ea)
    rw [← lx] at ao
    refine ⟨_, rfl, c, _, i, _, rfl, rfl, hc, atI_nat e1, ?_⟩
    refine ⟨_, rfl, _, rfl, l, dx, _, rfl, hl1, l, p, h', ns, ss, as, hs, st, rfl, g1, el, ?_⟩
    refine ⟨_, rfl, l, dx, _, rfl, hl1, l, p, h', ns, ss, as, hs, st, rfl, g1, el, fun v hv => ?_⟩
    refine ⟨_, v, st.2.1, a, st.2.2, rfl, hz1, hv, ao, by omega, bx, fun H2 s2 => ⟨_, rfl, ?_⟩⟩
    have s02 := s1.trans s2
    cases hf : fitsS a st.2.1 st.2.2 with
    | false =>
      refine iteT ?_
      exact ⟨_, rfl, fun dd nd => kN hf H2 dd s02 nd⟩
    | true =>
      refine iteF ?_
      have g2 := g.same s02
      obtain ⟨⟨dx2, hl2⟩, gp2, gh2⟩ := id g2
      refine ⟨_, rfl, _, rfl, l, dx2, _, rfl, hl2, l, p, h', ns, ss, as, hs, st, rfl, g2, el, fun v2 hv2 => ?_⟩
      refine ⟨_, v2, a, st.2.2, rfl, dp_same s2 _ hz1, hv2, ao, by omega, bx, fun q r H3 s3 hq hr3 => ?_⟩
      refine ⟨q, _, rfl, hq, rfl, _, _, rfl, _, _, rfl, rfl, ?_⟩
      have g3' := g2.same s3
      obtain ⟨⟨dx3, hl3⟩, gp3, gh3⟩ := id g3'
      obtain ⟨d, u, hh, hu⟩ := id gh3
      refine ⟨_, rfl, l, CL, dx3, _, _, rfl, hl3, X.cl, X.nh, pfL_h _ _, h', d, _, rfl, hh, rfl, _, rfl, _, rfl, _, rfl, (show 3 ≤ 1000 by decide), fun t H4 n4 => ?_⟩
      have hr4 := dp_same n4.2.2 _ hr3
      refine ⟨h', .ref t, hs, (some i, a.tgt, turnS a st.2.2), rfl, gh3.same n4.2.2, .tup (SqT.of n4.2.1) (.cons (.int _) (.cons (.str _) (.cons hr4 .nil))), l9, fun H5 f5 b5 g5 => ?_⟩
      have s24 := s02.trans (s3.trans n4.2.2)
      refine ⟨_, rfl, kY hf r H5 ((fh_same s24).trans f5) (butH_trans (butH_same s24) b5) ((g.same s24).step f5 b5 g5) (dp_fh f5 _ (nol_f _) hr4)⟩
/-- a lead is made, whatever is given -/
def spLiX (K : PySem.W.Frag) (C CH CL CP CQ CR : Addr) : Sp := fun vs H Q E => ∃ (H0 : Hp) (l dx : Addr) (v0 v1 v2 : V), vs = [.ref l, v0, v1, v2] ∧ Same H0 H ∧ H0 l = none ∧ H l = some (.ins CL dx []) ∧
  ((∃ d0, Rp K H0 v0 d0 ∧ Out E H0 CP v0) ∨ ∃ (p : Addr) (ns : List Str) (ss : List (Str × List Int)) (as : List Arm) (d1 d2 : PyData), v0 = .ref p ∧ ProgAt K C H0 p ns ss as ∧ OkP ns ss as ∧ Rp K H0 v1 d1 ∧ Rp K H0 v2 d2 ∧ okD d2 = true ∧
    (plB (placesS ss as) d1 = false → Out E H0 CQ v1) ∧ (plB (placesS ss as) d1 = true → intsB ns.length d2 = false → Out E H0 CR v2) ∧
    ∀ (z : Str) (xs : List Int), d1 = .str z → d2 = fD xs → z ∈ placesS ss as → xs.length = ns.length → ∀ h H', Same H0 H' → H0 h = none → LeadAt K C CH CL H' l p h ns ss as [(none, z, xs)] → Q .non H')
theorem ok_liX {f1 f2 f3 CP CQ CR : Addr} {d1 d2 d3 : FuncData} (F : FunP K "__init__" "Lead.__init__" sLi f fd) (X : LedC K mg CL) (HC : HisC K CH fHi fHp fHc fHb dHi dHp dHc dHb) (gH : mg "History" = some (.ref CH))
    (F1 : FnP K "check_program" sCg f1 d1) (g1 : mg "check_program" = some (.ref f1)) (G1 : FnOk P w K mg base (L2.CX P w) 3 f1 d1 ["program"] (spCgX K C CP))
    (F2 : FnP K "check_place" sCl f2 d2) (g2 : mg "check_place" = some (.ref f2)) (G2 : FnOk P w K mg base (L2.CX P w) 4 f2 d2 ["program", "place"] (spClX K C CQ))
    (F3 : FnP K "check_point" sCo f3 d3) (g3 : mg "check_point" = some (.ref f3)) (G3 : FnOk P w K mg base (L2.CX P w) 4 f3 d3 ["program", "point"] (spCoX K C CR)) : FnOk P w K mg base (L2.CX P w) 5 f fd ["self", "program", "place", "point"] (spLiX K C CH CL CP CQ CR) := by
  have b1 : Binds K d1 ["program"] [] := F1.bindsN fun _ _ _ _ _ _ us hl => match us, hl with | [_], _ => rfl
  have b2 : Binds K d2 ["program", "place"] [] := F2.bindsN fun _ _ _ _ _ _ us hl => match us, hl with | [_, _], _ => rfl
  have b3 : Binds K d3 ["program", "point"] [] := F3.bindsN fun _ _ _ _ _ _ us hl => match us, hl with | [_, _], _ => rfl
  have GH : FnOk P w K mg base CX0 1 fHi dHi ["self", "state"] (spHi K CH) := ok_hi HC.fi HC.cl HC.no
  have bH : Binds K dHi ["self", "state"] [] := HC.fi.bindsN fun _ _ _ _ _ _ us hl => match us, hl with | [_, _], _ => rfl
  refine okX F scLi (fun vs H Q E h => ?_) (fun cdv A outer s H vs Q E hr h => ?_)
  · obtain ⟨H0, l, dx, v0, v1, v2, rfl, _⟩ := h
    rfl
  · obtain ⟨H0, l, dx, v0, v1, v2, rfl, s0, n0, hl, h⟩ := h
    have hr2 := hr.mono (show 2 ≤ 4 by decide)
    have hr3 := hr.mono (show 3 ≤ 4 by decide)
    refine ⟨_, pss_cons (ps_expr (pe_callS G1 hr3 (by rfl) g1 F1.kp b1 (fun σ => passAt (takes_of rfl rfl rfl rfl) σ) (pa_cons (pv 1) pa_nil)))
      <| pss_cons (ps_expr (pe_callS G2 hr (by rfl) g2 F2.kp b2 (fun σ => passAt (takes_of rfl rfl rfl rfl) σ) (pa_cons (pv 1) (pa_cons (pv 2) pa_nil))))
      <| pss_cons (ps_expr (pe_callS G3 hr (by rfl) g3 F3.kp b3 (fun σ => passAt (takes_of rfl rfl rfl rfl) σ) (pa_cons (pv 1) (pa_cons (pv 3) pa_nil))))
      <| pss_cons (ps_fld (pv 0) (pv 1) rfl)
      <| pss_one (ps_fld (pv 0) (pe_make HC.mkr GH hr2 (by rfl) gH bH .nil pass0 (pa_cons (pe_tupR (pa_cons pe_non (pa_cons (pv 2) (pa_cons (pv 3) pa_nil)))) pa_nil)) rfl), ?_⟩
    refine ⟨_, rfl, v0, rfl, ?_⟩
    rcases h with ⟨d0, r0, k0⟩ | ⟨p, ns, ss, as, e1, e2, rfl, gp, ok, r1, r2, o2, k1, k2, k⟩
    · exact .inr ⟨d0, rp_sm s0 r0, fun H1 dd s n => k0 H1 dd (s0.trans s) n⟩
    refine .inl ⟨p, ns, ss, as, rfl, gp.same s0, ?_⟩
    refine ⟨_, rfl, _, rfl, p, v1, e1, ns, ss, as, rfl, gp.same s0, ok, rp_sm s0 r1, (fun hb => ?_), fun hb H1 dd s n => k1 hb H1 dd (s0.trans s) n⟩
    obtain ⟨z, rfl, hz⟩ := pl_is hb
    cases (rp_dp r1 fun _ q => nomatch q)
    refine ⟨_, rfl, _, rfl, p, v2, e2, ns, ss, as, rfl, gp.same s0, ok, rp_sm s0 r2, o2, (fun hc H1 s1 => ?_), fun hc H1 dd s n => k2 hb hc H1 dd (s0.trans s) n⟩
    obtain ⟨xs, rfl, lx⟩ := ints_is hc
    have hv := rp_dp r2 fun _ q => by cases q
    have k9 := k z xs rfl rfl hz lx
    have hl1 := s1 _ _ hl
    refine ⟨_, rfl, _, rfl, l, CL, dx, _, rfl, hl1, X.cl, X.np, (by decide), ?_⟩
    have sv : Same H0 (upd H1 l (.ins CL dx (putF "_program" (.ref p) []))) := same_put (s0.trans s1) n0
    generalize hG : upd H1 l (.ins CL dx (putF "_program" (.ref p) [])) = H2 at sv
    have hl2 : H2 l = some (.ins CL dx (putF "_program" (.ref p) [])) := by
      rw [← hG]
      exact upd_same
    clear hG
    refine ⟨_, rfl, _, rfl, (show 3 ≤ 1000 by decide), fun t H3 n3 => ?_⟩
    have s3 := sv.trans n3.2.2
    refine fun x dy nx ndy nex => ?_
    have s4 : Same H3 (upd (upd H3 dy (.own x)) x (.ins CH dy [])) := fun q o e => by
      rw [upd_ne (ne_of_none e nx), upd_ne (ne_of_none e ndy)]
      exact e
    refine ⟨H3, x, dy, .ref t, (none, z, xs), rfl, s4, nx, upd_same, .tup (SqT.of n3.2.1) (.cons .non (.cons (.str _) (.cons (dp_same s3 _ hv) .nil))), fun H5 s5 g5 b5 => ⟨rfl, ?_⟩⟩
    have hl5 := s5 _ _ (n3.2.2 _ _ hl2)
    refine ⟨_, rfl, l, CL, dx, _, rfl, hl5, X.cl, X.nh, Nat.lt_of_le_of_lt (putF_len _ _ _) (by decide), ?_⟩
    have n5 := s3.trans s5
    have hx0 : H0 x = none := by
      cases e : H0 x with
      | none => rfl
      | some o =>
        have e2 := s3 _ _ e
        rw [nx] at e2
        cases e2
    have nxl : x ≠ l := fun e => by
      have e2 := n3.2.2 _ _ hl2
      rw [← e, nx] at e2
      cases e2
    have s6 : Same H0 (upd H5 l (.ins CL dx (pfL (.ref p) (.ref x)))) := same_put n5 n0
    exact k9 x _ s6 hx0 ⟨⟨dx, upd_same⟩, gp.same s6, g5.ko (ko_ins hl5) fun o e => by rw [upd_ne nxl]; exact e⟩
end
end Pg
set_option Elab.async false
set_option linter.all false
set_option maxRecDepth 100000
set_option maxHeartbeats 8000000
namespace Hy
open PySem PySem.Spec PyProof.Rows L2 L2H Gd Rl Fx
/-! try: .. except (A, B, C) as n: .. -/
/-- what the clause wishes of an error of the body: slot i is n's -/
def wAs3 (K : PySem.W.Frag) (cs : List Value) (i m : Nat) (ts : Addr → Value → Option Addr → TS) (Wout : WX) (D : Ends) : WX := fun cls d σ H =>
  ∃ b, PySem.W.exmAny K cls cs = some b ∧ (b = true → ∀ a, H a = none → σ.length = m → ts a cls d { nx := fun σ' H' => D.nx (σ'.set i none) H', rt := D.rt, bk := fun σ' H' => D.bk (σ'.set i none) H', ct := fun σ' H' => D.ct (σ'.set i none) H' } (σ.set i (some (.ref a))) H) ∧ (b = false → Wout cls d σ H)
theorem stays_push {B h : Heap} {o : Obj} (k : B.StaysIn h) : B.StaysIn (h.push o) := fun b u e => Heap.get?_push_of_some _ (k b u e)
theorem flying_push {B h : Heap} {l : List Env} {a : Addr} {Z : Obj → Prop} {o : Obj} (x : HandSPX.FlyingZ B l a Z h) : HandSPX.FlyingZ B l a Z (h.push o) := by
  obtain ⟨x1, x2, x3, oe, vs, T, oT, ts, e1, e2, e3, e4, e5, e6, e7, e8⟩ := x
  exact ⟨stays_push x1, x2, x3.of_keeps fun b u e _ => ⟨u, Heap.get?_push_of_some _ e, rfl⟩, oe, vs, T, oT, ts, Heap.get?_push_of_some _ e1, e2, e3, e4, e5, e6, Heap.get?_push_of_some _ e7, e8⟩
section
variable {X : Cx} {n : Str} {i : Nat} {body suite : List Stmt} {b₀ : Stmt} {pos pos' : Pos} {tb : WX → TS} {ts : Addr → Value → Option Addr → TS} {Wout : WX} {x1 x2 x3 : Str} {c1 c2 c3 : Value} {p1 p2 p3 tp : Pos} {kk : Nat}
/-- the classes of the clause are read: a new tuple holds them -/
theorem three_read {pn : List (Addr × Obj)} {a : Addr} {σ : L2.St} {H : Hp} {s : Shared} {q : Addr × Obj} {Q : Value → Shared → Prop} {E : Value → Shared → Prop} (S : Inv (X.suite a (q :: pn)) [] σ H s) (n1 : Names X x1 c1) (n2 : Names X x2 c2) (n3 : Names X x3 c3)
    (h : Q (.ref s.heap.objs.size) { s with heap := s.heap.push { cls := .type "tuple", data := .seq [c1, c2, c3].toArray } }) :
    wpAny (model X.prog X.w) (X.A.mark (some (.ref a))) (eval (.Tuple [.Name x1 p1, .Name x2 p2, .Name x3 p3] kk tp) X.env) Q E s := by
  have one : ∀ {x : Str} {c : Value} {p : Pos} {Q : Value → Shared → Prop}, Names X x c → Q c s → wpAny (model X.prog X.w) (X.A.mark (some (.ref a))) (eval (.Name x p) X.env) Q E s := fun {x c p Q} hn q0 => by
    obtain ⟨hg, hdbg, hm | ⟨hm, hv, hnn⟩⟩ := hn
    · exact ld_glob (X := X.suite a (q :: pn)) S hg hm q0 hdbg
    · exact ld_blt (X := X.suite a (q :: pn)) S hg hm hv q0 hnn hdbg
  refine wpAny_Tuple (wpAny_items_cons (one n1 (wpAny_items_cons (one n2 (wpAny_items_cons (one n3 (wpAny_items_nil ⟨by size_fits, h⟩)))))))
theorem ps_try3 (hs : X.stack = X.env :: X.outer) (hf : X.env.frame = some X.env.locals) (hN : X.N.Nodup) (hi : X.N[i]? = some n) (hln : X.env.kindOf n = some .local) (n1 : Names X x1 c1) (n2 : Names X x2 c2) (n3 : Names X x3 c3) (tk : Takes X Wout)
    (hb : ∀ (W : WX) (pn : List (Addr × Obj)) (xe : Value → Shared → Prop), Takes (X.tr pn xe) W → PassesOwn (model X.prog X.w) X.A X.env xe → PSs (X.tr pn xe) body (tb W))
    (hsu : ∀ (a : Addr) (oe : Obj) (cls : Value) (d : Option Addr) (pn : List (Addr × Obj)), Zc cls d oe → (∃ vs, oe.data = .fields vs) → PSs (X.suite a ((a, oe) :: pn)) (b₀ :: suite) (ts a cls d)) :
    PS X (.Try body [.ExceptHandler (some (.Tuple [.Name x1 p1, .Name x2 p2, .Name x3 p3] kk tp)) (some n) (b₀ :: suite) pos'] [] [] pos) (fun D σ H => tb (wAs3 X.K [c1, c2, c3] i X.N.length ts Wout D) D σ H) := by
  refine ⟨fun pins s σ H D I h => ?_⟩
  have ok := I.ok
  have hfr : X.A.frames = some (X.env :: X.outer) := by rw [ok.frames, hs]
  have hloc : Loc X.env.scope n := .inl hln
  refine wpAny_Try_except (wpAny_mono ((hb (wAs3 X.K [c1, c2, c3] i X.N.length ts Wout D) (X.pn ++ pins) (fun e s₁ => wpAny (model X.prog X.w) X.A (noteFrame e X.env) (fun _ s₂ => wpAny (model X.prog X.w) X.A (setFlight e none) (fun _ s₃ =>
    wpAny (model X.prog X.w) X.A (handleBy e X.env [.ExceptHandler (some (.Tuple [.Name x1 p1, .Name x2 p2, .Name x3 p3] kk tp)) (some n) (b₀ :: suite) pos']) (SP X pins D) X.xe s₃) X.xe s₂) X.xe s₁) (fun u s' xx => ?_) PassesOwn.looking).run [] s σ H D (I.toTry _) h) (fun f s1 hsp => ?_) fun e s1 he => he)
  · obtain ⟨a, B, sI, pins', σ', H', cls, d, rfl, J', nb, up, sky, na, os, ag, b, hb1, hyes, hno⟩ := xx
    have J : Inv X pins σ' H' sI := J'.ofTry ok
    have sky' : Sky B (X.env :: X.outer) a (Zc cls d) X.env.locals s'.heap := by rw [← hs]; exact sky
    refine Sky.land Zc.steady hfr hf sky' fun h3 fl3 up3 => ?_
    have J3 : Inv X pins σ' H' { s' with heap := h3 } := J.landed nb fl3.1 (up.trans up3) os ag
    obtain ⟨oe3, vs3, he3, hz3, hd3⟩ := fl3.there
    have nfr : a ∉ frs (X.env :: X.outer) := fun hm => by
      obtain ⟨_, o', e', hnf⟩ := fl3.2.2.1.mem hm
      rw [he3] at e'
      cases e'
      exact hnf _ hd3
    have nL : a ≠ X.env.locals := fun z => nfr (List.mem_filterMap.mpr ⟨X.env, List.mem_cons_self, by rw [hf, z]⟩)
    have nF : a ∉ X.fs := fun hm => by
      obtain ⟨e, he, q⟩ := List.mem_filterMap.mp hm
      exact nfr (List.mem_filterMap.mpr ⟨e, List.mem_cons_of_mem _ he, q⟩)
    have S3 := J3.suite he3 hd3 na nL nF
    refine wpAny_handleBy_cons (codeAny_handlers_test ?_) (by intro q; cases q)
    refine three_read S3 n1 n2 n3 ?_
    have kp : ∀ b o, h3.get? b = some o → (h3.push { cls := .type "tuple", data := .seq [c1, c2, c3].toArray }).get? b = some o := fun b o e => Heap.get?_push_of_some _ e
    have LT : PySem.W.Looks (model X.prog X.w) (h3.push { cls := .type "tuple", data := .seq [c1, c2, c3].toArray }) (typeOf (.ref a)) cls := fun A Q E s k q => wpAny_typeOf_ref (k _ _ (kp _ _ he3)) (by rw [hz3.1]; exact q)
    have LM := PySem.W.exm_tup3 (M := model X.prog X.w) (J3.kIn.keeps kp) LT (Heap.get?_push_size h3 rfl) hb1
    have flp : HandSPX.FlyingZ B (X.env :: X.outer) a (Zc cls d) (h3.push { cls := .type "tuple", data := .seq [c1, c2, c3].toArray }) := flying_push fl3
    have upp : s'.heap.UpToSlots (h3.push { cls := .type "tuple", data := .seq [c1, c2, c3].toArray }) := up3.trans (Heap.UpToSlots.of_keeps kp)
    refine LM.here ?_
    generalize h3.push { cls := .type "tuple", data := .seq [c1, c2, c3].toArray } = h3' at flp upp
    cases b with
    | true =>
      refine codeAny_handlers_suite_as (HandSPX.lands_againZ flp fun h4 fl4 up4 => ?_)
      have J4 : Inv X pins σ' H' { s' with heap := h4 } := J.landed nb fl4.1 ((up.trans upp).trans up4) os ag
      obtain ⟨oe4, vs4, he4, hz4, hd4⟩ := fl4.there
      have S4 := J4.suite he4 hd4 na nL nF
      refine store_ok (X := X.suite a ((a, oe4) :: (X.pn ++ pins))) (v := .ref a) S4 hN hi hloc rfl (fun s5 S5 => ?_) (.inr hln)
      refine wpAny_mono ((hsu a oe4 cls d (X.pn ++ pins) hz4 ⟨_, hd4⟩).run [] s5 _ H' _ S5 (hyes rfl a na J.len)) (fun f s6 hsp => ?_) (fun _ _ z => False.elim z)
      have last : ∀ {σ6 : L2.St} {H6 : Hp} {Q : Shared → Prop}, Inv (X.suite a ((a, oe4) :: (X.pn ++ pins))) [] σ6 H6 s6 → (∀ s7, Inv X pins (σ6.set i none) H6 s7 → Q s7) →
          wpAny (model X.prog X.w) X.A (do bindName X.env n .none; unbindBehindTheSuite X.env n pos') (fun _ s7 => Q s7) X.xe s6 := fun {σ6 H6 Q} S6 hq => gone_ok (S6.unsuite ok) hN hi hln hq
      cases f with
      | next =>
        obtain ⟨σ6, H6, S6, q6⟩ := hsp
        exact last S6 fun s7 J7 => ⟨_, _, J7, q6⟩
      | brk =>
        obtain ⟨σ6, H6, S6, q6⟩ := hsp
        exact last S6 fun s7 J7 => ⟨_, _, J7, q6⟩
      | cont =>
        obtain ⟨σ6, H6, S6, q6⟩ := hsp
        exact last S6 fun s7 J7 => ⟨_, _, J7, q6⟩
      | ret u =>
        obtain ⟨v6, σ6, H6, S6, r6, q6⟩ := hsp
        exact last S6 fun s7 J7 => ⟨_, _, _, J7, r6, q6⟩
    | false =>
      refine wpAny_handleBy_nil ?_
      obtain ⟨k1, k2, k3, oe, vs, T, oT, ts', he, hz, hd, h1, hr⟩ := id flp
      unfold PySem.passOn
      refine wpAny_bind (wpAny_field he hd h1 ?_)
      rw [if_neg (show ¬ ((Value.ref T == Value.none) = true) from by simp)]
      have fin : wpAny (model X.prog X.w) X.A (setFlight (.ref a) X.env.frame) (fun _ s4 => wpAny (model X.prog X.w) X.A (throw (.ref a) : Sem Flow) (SP X pins D) X.xe s4) X.xe { s' with heap := h3' } := by
        rw [hf]
        refine HandSPX.setFlight_upZ flp fun h4 hh4 up4 => wpAny_throw (tk _ _ ⟨a, B, sI, pins, σ', H', cls, d, rfl, J, nb, (up.trans upp).trans up4, .inr (.inr (by rw [hs]; exact hh4)), na, os, ag, hno rfl⟩)
      first
        | exact wpAny_bind (wpAny_pure (wpAny_bind fin))
        | exact wpAny_bind fin
  · cases f with
    | next =>
      obtain ⟨σ', H', J', q⟩ := hsp
      exact wpAny_execs_nil ⟨σ', H', J'.ofTry ok, q⟩
    | brk =>
      obtain ⟨σ', H', J', q⟩ := hsp
      exact ⟨σ', H', J'.ofTry ok, q⟩
    | cont =>
      obtain ⟨σ', H', J', q⟩ := hsp
      exact ⟨σ', H', J'.ofTry ok, q⟩
    | ret u =>
      obtain ⟨v, σ', H', J', r, q⟩ := hsp
      exact ⟨v, σ', H', J'.ofTry ok, r, q⟩
end
end Hy
set_option Elab.async false
set_option linter.all false
set_option maxRecDepth 100000
set_option maxHeartbeats 8000000
namespace Ow
open PySem PySem.Spec PyProof.Rows L2 Gd Rl
/-! xs.count(x) of flat items; o.m(k = v) -/
section
variable {X : Cx}
def rCntF (K : PySem.W.Frag) : V → List V → Hp → VK → Prop := fun x xs H Q => ∃ (p : Addr) (ys : List V) (y : V), x = .ref p ∧ xs = [y] ∧ SqL K H p ys ∧ flatV y = true ∧ ys.all flatV = true ∧ Q (.int (ys.countP fun z => eqV z y : Nat)) H
theorem count_eqU {y : V} : ∀ {xs : List V} {us : List Value}, Vals xs us → xs.all flatV = true → us.countP (eqU y) = xs.countP fun z => eqV z y
  | _, _, .nil, _ => rfl
  | _, _, .cons r rr, h => by
    obtain ⟨h1, h2⟩ := Bool.and_eq_true_iff.mp (by rw [List.all_cons] at h; exact h)
    rw [List.countP_cons, List.countP_cons, count_eqU rr h2, eqU_of r h1]
theorem mem_vals {u : Value} : ∀ {xs : List V} {us : List Value}, Vals xs us → xs.all flatV = true → u ∈ us → ∃ z, RelV z u ∧ flatV z = true
  | _, _, .nil, _, hu => by cases hu
  | _, _, .cons (a := x) r rr, h, hu => by
    obtain ⟨h1, h2⟩ := Bool.and_eq_true_iff.mp (by rw [List.all_cons] at h; exact h)
    rcases List.mem_cons.mp hu with e | hu
    · rw [e]
      exact ⟨x, r, h1⟩
    · exact mem_vals rr h2 hu
theorem mt_lcountF : MtR X "list.count" (rCntF X.K) := by
  intro pins s σ H x xs v us Q I rx rxs h
  obtain ⟨p, ys, y, rfl, rfl, hs, fy, fys, q⟩ := h
  cases rx
  obtain ⟨u, rfl, ru⟩ := rxs.one
  obtain ⟨its, rv, ⟨⟨cls, dd, data, sl⟩, n, ho, hc, hdn, hd⟩, hlen⟩ := I.list hs
  simp only at hc hd
  subst hc hd
  refine call_meets PySem.F.slot_list_count ⟨_, ho, rfl⟩ PySem.F.entry_list_count (PySem.F.args_list_count_2 _ _)
    (SeqAt.list_countAt p its.toArray n dd sl u (eqU y)) ⟨ho, fun z hz => ?_, ?_⟩
  · obtain ⟨z1, rz, fz⟩ := mem_vals rv fys (by simpa using hz)
    rw [eqU_of rz fz]
    exact eqAt_V rz ru fz fy
  · refine ⟨.int (ys.countP fun z => eqV z y : Nat), H, I.tok _, ⟨s.toks, ?_⟩, q⟩
    show Value.int ((its.toArray.toList.countP (eqU y) : Nat) : Int) s.toks = _
    rw [show its.toArray.toList = its from rfl, count_eqU rv fys]
end
section
variable {X : Cx} {CX : CXT} {k : Nat} {C g : Addr} {sp : Sp} {E : XK} {o : Expr} {m : Str} {pos apos : Pos} {ta : TE} {tk : TA} {pl : Sem Bool} {fd : FuncData} {ps ks : List Str} {kws : List Keyword} {gg : List Value → List Value → List Value} {gV : List V → List V → List V}
/-- o.m(k = v, ..), o an own object -/
def tMethK (C : Addr) (m : Str) (n : Nat) (sp : Sp) (gV : List V → List V → List V) (E : XK) (ta : TE) (tk : TA) : TE := fun σ H Q => ta σ H fun x H1 => ∃ a dx fs, x = .ref a ∧ H1 a = some (.ins C dx fs) ∧ fs.lookup m = none ∧ tk σ H1 fun zs H2 => zs.length = n ∧ sp (gV [.ref a] zs) H2 Q E
theorem pe_methK (he : PE X o ta) (c : Cls X.K C) (hm : Meth X.K C m g) (F : FnOk X.prog X.w X.K X.mg X.base CX k g fd ps sp) (hr : Room k X.A) (hb : KBn X.K fd ps 1 ks gg gV) (hx : Passes CX X E) (hkw : PK X kws tk)
    (hall : (backToKw pos (keywordEach kws X.env)).all (·.1.isSome) = true := by rfl) (hks : (backToKw pos (keywordEach kws X.env)).filterMap (·.1) = ks := by rfl)
    (hpl : ((backTo pos (starEach [] X.env)).any (·.1) || (backToKw pos (keywordEach kws X.env)).any (·.1.isNone)) = false := by rfl)
    (ht : eval (.Call (.Attribute o m apos) [] kws pos) X.env = (do
      let v ← eval o X.env
      standAt apos.atName
      let (f, first) ← holding [v] (getMethod v m pl)
      callWith pos f first (backTo pos (starEach [] X.env)) (backToKw pos (keywordEach kws X.env))) := by rfl) :
    PE X (.Call (.Attribute o m apos) [] kws pos) (tMethK C m ks.length sp gV E ta tk) := by
  refine ⟨fun pins s σ H Q I h => ?_⟩
  refine PySem.W.methodCall_KW (pl := pl) (thn (he.run pins s σ H _ I h) fun u s1 ⟨x, H1, I1, rx, a, dx, fs, ex, ea, l, q⟩ => ?_) ht
  subst ex
  cases (show u = Value.ref a from rx)
  refine getmeth_ok I1 ea c hm l ?_
  refine PySem.W.callWith_KW0 (first := [.ref a]) (h₀ := X.base) I.ok.mod.kin hm.kp hall ?_ hpl
  refine thn (hkw.run pos pins s1 σ H1 _ I1 q) fun ws s2 ⟨zs, H2, I2, rz, l2, q2⟩ => ⟨I2.kIn, ?_⟩
  rw [hks]
  refine wpAny_call (codeAny_mono (F.run X.A X.stack s2 H2 ⟨[.ref a], ks.zip ws⟩ (gg [.ref a] ws) (gV [.ref a] zs) Q E hr I2.env0 (hb.to s2 [.ref a] ws I2.kIn rfl (rz.length.symm.trans l2)) (hb.rel (.cons rfl .nil) rz) q2) fun r s' hq => ?_)
  cases r with
  | error e => exact hx pins σ H2 s2 e s' I2 hq
  | ok fl =>
    cases fl with
    | ret u => exact I2.after hq
    | next => exact False.elim hq
    | brk => exact False.elim hq
    | cont => exact False.elim hq
end
end Ow
set_option Elab.async false
set_option linter.all false
set_option maxRecDepth 100000
set_option maxHeartbeats 16000000
namespace K5
open PySem PySem.Spec PyProof.Rows L2 L2H Gd Rl Hy Fx Ow
open Pg (Mo top FnP)
abbrev sAns : Stmt := top 69
abbrev sSort : Stmt := top 79
/-- the three bases -/
structure Bas (K : PySem.W.Frag) (mg : Str → Option Value) (b0 b1 b2 : Addr) : Prop where
  g0 : mg "WrongValue" = some (.ref b0)
  g1 : mg "WrongName" = some (.ref b1)
  g2 : mg "NotPossible" = some (.ref b2)
/-- what isinstance says of an error of the class C, of this kind -/
structure ErS (K : PySem.W.Frag) (C b0 b1 b2 : Addr) (kind : Nat) (f : Str) : Prop where
  i : IsC K C
  x : XfC K C
  no : PySem.W.findIn K (.ref C) f = some none
  few : kind < 3
  k0 : PySem.W.kitOne K (.ref C) (.ref b0) = some (kind == 0)
  k1 : PySem.W.kitOne K (.ref C) (.ref b1) = some (kind == 1)
  k2 : PySem.W.kitOne K (.ref C) (.ref b2) = some (kind == 2)
  p0 : PySem.W.kitOne K (.ref C) (.type "ValueError") = some (kind == 0)
  p1 : PySem.W.kitOne K (.ref C) (.type "LookupError") = some (kind == 1)
  p2 : PySem.W.kitOne K (.ref C) (.type "ArithmeticError") = some (kind == 2)
  any : PySem.W.exmAny K (.ref C) [.ref b0, .ref b1, .ref b2] = some true
/-- the same of an error that holds nothing -/
structure ErS0 (K : PySem.W.Frag) (C b0 b1 b2 : Addr) (kind : Nat) : Prop where
  i : IsC K C
  few : kind < 3
  k0 : PySem.W.kitOne K (.ref C) (.ref b0) = some (kind == 0)
  k1 : PySem.W.kitOne K (.ref C) (.ref b1) = some (kind == 1)
  k2 : PySem.W.kitOne K (.ref C) (.ref b2) = some (kind == 2)
  p0 : PySem.W.kitOne K (.ref C) (.type "ValueError") = some (kind == 0)
  p1 : PySem.W.kitOne K (.ref C) (.type "LookupError") = some (kind == 1)
  p2 : PySem.W.kitOne K (.ref C) (.type "ArithmeticError") = some (kind == 2)
  any : PySem.W.exmAny K (.ref C) [.ref b0, .ref b1, .ref b2] = some true
structure BlS (mg : Str → Option Value) : Prop where
  isi : mg "isinstance" = none
  repr : mg "repr" = none
  len : mg "len" = none
  ve : mg "ValueError" = none
  le : mg "LookupError" = none
  ae : mg "ArithmeticError" = none
/-- the errors that are known: where, name, field -/
structure Errs (K : PySem.W.Frag) (mg : Str → Option Value) (b0 b1 b2 c0 c1 c2 c3 c4 c5 : Addr) : Prop where
  g0 : mg "InvalidIndex" = some (.ref c0)
  s0 : ErS K c0 b0 b1 b2 0 "given"
  g1 : mg "InvalidPlace" = some (.ref c1)
  s1 : ErS K c1 b0 b1 b2 0 "given"
  g2 : mg "InvalidPoint" = some (.ref c2)
  s2 : ErS K c2 b0 b1 b2 0 "given"
  g3 : mg "NotProgram" = some (.ref c3)
  s3 : ErS K c3 b0 b1 b2 0 "given"
  g4 : mg "Stuck" = some (.ref c4)
  s4 : ErS K c4 b0 b1 b2 2 "index"
  g5 : mg "NothingToUndo" = some (.ref c5)
  s5 : ErS0 K c5 b0 b1 b2 2
  m0_0 : PySem.W.kitOne K (.ref c0) (.ref c0) = some true
  m0_1 : PySem.W.kitOne K (.ref c0) (.ref c1) = some false
  m0_2 : PySem.W.kitOne K (.ref c0) (.ref c2) = some false
  m0_3 : PySem.W.kitOne K (.ref c0) (.ref c3) = some false
  m0_4 : PySem.W.kitOne K (.ref c0) (.ref c4) = some false
  m0_5 : PySem.W.kitOne K (.ref c0) (.ref c5) = some false
  m1_0 : PySem.W.kitOne K (.ref c1) (.ref c0) = some false
  m1_1 : PySem.W.kitOne K (.ref c1) (.ref c1) = some true
  m1_2 : PySem.W.kitOne K (.ref c1) (.ref c2) = some false
  m1_3 : PySem.W.kitOne K (.ref c1) (.ref c3) = some false
  m1_4 : PySem.W.kitOne K (.ref c1) (.ref c4) = some false
  m1_5 : PySem.W.kitOne K (.ref c1) (.ref c5) = some false
  m2_0 : PySem.W.kitOne K (.ref c2) (.ref c0) = some false
  m2_1 : PySem.W.kitOne K (.ref c2) (.ref c1) = some false
  m2_2 : PySem.W.kitOne K (.ref c2) (.ref c2) = some true
  m2_3 : PySem.W.kitOne K (.ref c2) (.ref c3) = some false
  m2_4 : PySem.W.kitOne K (.ref c2) (.ref c4) = some false
  m2_5 : PySem.W.kitOne K (.ref c2) (.ref c5) = some false
  m3_0 : PySem.W.kitOne K (.ref c3) (.ref c0) = some false
  m3_1 : PySem.W.kitOne K (.ref c3) (.ref c1) = some false
  m3_2 : PySem.W.kitOne K (.ref c3) (.ref c2) = some false
  m3_3 : PySem.W.kitOne K (.ref c3) (.ref c3) = some true
  m3_4 : PySem.W.kitOne K (.ref c3) (.ref c4) = some false
  m3_5 : PySem.W.kitOne K (.ref c3) (.ref c5) = some false
  m4_0 : PySem.W.kitOne K (.ref c4) (.ref c0) = some false
  m4_1 : PySem.W.kitOne K (.ref c4) (.ref c1) = some false
  m4_2 : PySem.W.kitOne K (.ref c4) (.ref c2) = some false
  m4_3 : PySem.W.kitOne K (.ref c4) (.ref c3) = some false
  m4_4 : PySem.W.kitOne K (.ref c4) (.ref c4) = some true
  m4_5 : PySem.W.kitOne K (.ref c4) (.ref c5) = some false
  m5_0 : PySem.W.kitOne K (.ref c5) (.ref c0) = some false
  m5_1 : PySem.W.kitOne K (.ref c5) (.ref c1) = some false
  m5_2 : PySem.W.kitOne K (.ref c5) (.ref c2) = some false
  m5_3 : PySem.W.kitOne K (.ref c5) (.ref c3) = some false
  m5_4 : PySem.W.kitOne K (.ref c5) (.ref c4) = some false
  m5_5 : PySem.W.kitOne K (.ref c5) (.ref c5) = some true
def known (c0 c1 c2 c3 c4 c5 : Addr) : List (Addr × Str × Str) × List (Addr × Str) := ([(c0, "InvalidIndex", "given"), (c1, "InvalidPlace", "given"), (c2, "InvalidPoint", "given"), (c3, "NotProgram", "given"), (c4, "Stuck", "index")], [(c5, "NothingToUndo")])
/-- a value that can be shown -/
def Shw (K : PySem.W.Frag) (H : Hp) (v : V) (d : PyData) : Prop := Rp K H v d ∧ PyData.showable d = true ∧ d.depth ≤ 20 ∧ d.shown.length ≤ sizeLine
theorem rp_same {K : PySem.W.Frag} {H H' : Hp} {v : V} {d : PyData} (s : Same H H') (h : Rp K H v d) : Rp K H' v d := by
  rcases h with h | ⟨a, kvs, ds, e, h1, h2, h3⟩
  · exact .inl (dp_same s _ h)
  · exact .inr ⟨a, kvs, ds, e, s _ _ h1, h2, h3⟩
theorem Shw.same {K : PySem.W.Frag} {H H' : Hp} {v : V} {d : PyData} (h : Shw K H v d) (s : Same H H') : Shw K H' v d := ⟨rp_same s h.1, h.2⟩
/-- an error of a known class, told: its name and what it holds -/
def Told (K : PySem.W.Frag) (es : List (Addr × Str × Str) × List (Addr × Str)) (c : Value) (d : Option Addr) (H : Hp) (Q : VK) : Prop := (∃ (t : Addr × Str × Str) (dd : Addr) (v : V) (dv : PyData), t ∈ es.1 ∧ c = .ref t.1 ∧ d = some dd ∧ H dd = some (.xd [(t.2.2, v)]) ∧ Shw K H v dv ∧ ∀ l H', New H l (.lst [.str t.2.1, .str dv.shown]) H' → Q (.ref l) H') ∨
  ∃ (t : Addr × Str), t ∈ es.2 ∧ c = .ref t.1 ∧ d = none ∧ ∀ l H', New H l (.lst [.str t.2, .str ""]) H' → Q (.ref l) H'
def spSort (K : PySem.W.Frag) (es : List (Addr × Str × Str) × List (Addr × Str)) : Addr → Value → Option Addr → Sp := fun a c d vs H Q _ => vs = [.ref a] ∧ Told K es c d H Q
abbrev nSort : List Str := ["_law_e", "_law_bases", "_law_plain", "_law_found"]
theorem scSort : FnScope nSort ["_law_e"] (defScope sSort) := ⟨rfl, rfl, rfl, by decide +kernel, rfl, by decide +kernel, by decide +kernel⟩
abbrev nAns : List Str := ["_law_call_here", "_law_got", "_law_e"]
theorem scAns : FnScope nAns ["_law_call_here"] (defScope sAns) := ⟨rfl, rfl, rfl, by decide +kernel, rfl, by decide +kernel, by decide +kernel⟩
theorem flags_one {kind : Nat} (h : kind < 3) : (([V.bl (kind == 0), V.bl (kind == 1), V.bl (kind == 2)].countP fun z => eqV z (.bl true) : Nat) : Int) = 1 := by
  match kind, h with
  | 0, _ => decide +kernel
  | 1, _ => decide +kernel
  | 2, _ => decide +kernel
theorem flags_eq {kind : Nat} (h : kind < 3) : PyData.eqv (.list [.bool (kind == 0), .bool (kind == 1), .bool (kind == 2)]) (.list [.bool (kind == 0), .bool (kind == 1), .bool (kind == 2)]) = true := by
  match kind, h with
  | 0, _ => decide +kernel
  | 1, _ => decide +kernel
  | 2, _ => decide +kernel
theorem flags_shp {kind : Nat} (h : kind < 3) : SeqAt.shaped (.list [.bool (kind == 0), .bool (kind == 1), .bool (kind == 2)]) = true := by
  match kind, h with
  | 0, _ => decide +kernel
  | 1, _ => decide +kernel
  | 2, _ => decide +kernel
section
variable {P : Program} {w : World} {K : PySem.W.Frag} {mg : Str → Option Value} {base : Heap} {f b0 b1 b2 c0 c1 c2 c3 c4 c5 : Addr} {fd : FuncData}
theorem ok_sort (F : FnP K "_law_sort" sSort f fd) (B : Bas K mg b0 b1 b2) (U : BlS mg) (T : Errs K mg b0 b1 b2 c0 c1 c2 c3 c4 c5) : FnQ P w K mg base 1 f fd ["_law_e"] (spSort K (known c0 c1 c2 c3 c4 c5)) := by
  refine okQ F scSort (fun a c d vs H Q E h => ?_) (fun cdv A outer s H vs Q E a oe c d hgd hr hz hf h => ?_)
  · obtain ⟨rfl, _⟩ := h
    rfl
  · obtain ⟨rfl, h⟩ := h
    have hu : (A.deeper (envOfC (Str.ofString "_law_sort") (defScope sSort) s.heap.objs.size f cdv)).units + 64 < cLine := by
      have := hr.un
      omega
    have hp : (a, oe) ∈ (cxH CX0 P w K mg base nSort (Str.ofString "_law_sort") (defScope sSort) f cdv A outer s H E (a, oe)).pn := List.mem_cons_self
    rcases h with ⟨t, dd, v, dv, ht, rfl, rfl, hd, hv, k⟩ | ⟨t, ht, rfl, rfl, k⟩ <;> simp only [known, List.mem_cons, List.not_mem_nil, or_false] at ht
    · rcases ht with rfl | rfl | rfl | rfl | rfl
      · refine ⟨_, PSs.nox <| pss_cons (ps_set (i := 1) scSort.nd rfl (.inl rfl) (pe_lstR (pa_cons (pe_callB (call_isP hp hz hf T.s0.i) (by rfl) U.isi boot_isinstance (pa_cons (pv 0) (pa_cons (pe_glob (v := .ref b0) (by rfl) B.g0 rfl) pa_nil))) (pa_cons (pe_callB (call_isP hp hz hf T.s0.i) (by rfl) U.isi boot_isinstance (pa_cons (pv 0) (pa_cons (pe_glob (v := .ref b1) (by rfl) B.g1 rfl) pa_nil))) (pa_cons (pe_callB (call_isP hp hz hf T.s0.i) (by rfl) U.isi boot_isinstance (pa_cons (pv 0) (pa_cons (pe_glob (v := .ref b2) (by rfl) B.g2 rfl) pa_nil))) pa_nil)))))
          <| pss_cons (ps_set (i := 2) scSort.nd rfl (.inl rfl) (pe_lstR (pa_cons (pe_callB (call_isP hp hz hf T.s0.i) (by rfl) U.isi boot_isinstance (pa_cons (pv 0) (pa_cons (pe_bltn (v := .ty "ValueError") (by rfl) U.ve (by decide +kernel) rfl) pa_nil))) (pa_cons (pe_callB (call_isP hp hz hf T.s0.i) (by rfl) U.isi boot_isinstance (pa_cons (pv 0) (pa_cons (pe_bltn (v := .ty "LookupError") (by rfl) U.le (by decide +kernel) rfl) pa_nil))) (pa_cons (pe_callB (call_isP hp hz hf T.s0.i) (by rfl) U.isi boot_isinstance (pa_cons (pv 0) (pa_cons (pe_bltn (v := .ty "ArithmeticError") (by rfl) U.ae (by decide +kernel) rfl) pa_nil))) pa_nil)))))
          <| pss_cons (ps_set (i := 3) scSort.nd rfl (.inl rfl) (pe_lstR pa_nil))
          <| pss_cons (ps_if (pt_val (pe_callB (call_isP hp hz hf T.s0.i) (by rfl) U.isi boot_isinstance (pa_cons (pv 0) (pa_cons (pe_glob (v := .ref c0) (by rfl) T.g0 rfl) pa_nil)))) (pss_one (ps_expr (pe_bm PySem.F.plainAttrs_list PySem.F.slot_list_append PySem.F.type_list_append mt_append (pv 3) (pa_cons (pe_lstR (pa_cons pe_str (pa_cons (pe_callB (call_repr hgd hu) (by rfl) U.repr boot_repr (pa_cons (pe_xp T.s0.x T.s0.no hp hz hf (pv 0)) pa_nil)) pa_nil))) pa_nil)))) pss_nil)
          <| pss_cons (ps_if (pt_val (pe_callB (call_isP hp hz hf T.s0.i) (by rfl) U.isi boot_isinstance (pa_cons (pv 0) (pa_cons (pe_glob (v := .ref c1) (by rfl) T.g1 rfl) pa_nil)))) (pss_one ps_never) pss_nil)
          <| pss_cons (ps_if (pt_val (pe_callB (call_isP hp hz hf T.s0.i) (by rfl) U.isi boot_isinstance (pa_cons (pv 0) (pa_cons (pe_glob (v := .ref c2) (by rfl) T.g2 rfl) pa_nil)))) (pss_one ps_never) pss_nil)
          <| pss_cons (ps_if (pt_val (pe_callB (call_isP hp hz hf T.s0.i) (by rfl) U.isi boot_isinstance (pa_cons (pv 0) (pa_cons (pe_glob (v := .ref c3) (by rfl) T.g3 rfl) pa_nil)))) (pss_one ps_never) pss_nil)
          <| pss_cons (ps_if (pt_val (pe_callB (call_isP hp hz hf T.s0.i) (by rfl) U.isi boot_isinstance (pa_cons (pv 0) (pa_cons (pe_glob (v := .ref c4) (by rfl) T.g4 rfl) pa_nil)))) (pss_one ps_never) pss_nil)
          <| pss_cons (ps_if (pt_val (pe_callB (call_isP hp hz hf T.s0.i) (by rfl) U.isi boot_isinstance (pa_cons (pv 0) (pa_cons (pe_glob (v := .ref c5) (by rfl) T.g5 rfl) pa_nil)))) (pss_one ps_never) pss_nil)
          <| pss_one (ps_ret (pe_ifExp (PW.pt (pw_and (pt_cmpR op_eq (pe_callB call_len (by rfl) U.len PySem.boot_len (pa_cons (pv 3) pa_nil)) pe_int (nomark _)) (pw_and (pt_cmpR (op_eqD hu) (pv 1) (pv 2) (nomark _)) (pw_and1 (pt_cmpR op_eq (pe_bm PySem.F.plainAttrs_list PySem.F.slot_list_count PySem.F.type_list_count mt_lcountF (pv 1) (pa_cons pe_bl pa_nil)) pe_int (nomark _))))))
              (pe_ix ix_list (pv 3) pe_int (fun _ _ => rfl)) (pe_lstR (pa_cons pe_str (pa_cons pe_str pa_nil))))), ?_⟩
        have sE := T.s0
        refine ⟨_, rfl, .ref b0, .ref b0, _, _, rfl, .own _, hd, sE.k0, ⟨_, rfl, .ref b1, .ref b1, _, _, rfl, .own _, hd, sE.k1, ⟨_, rfl, .ref b2, .ref b2, _, _, rfl, .own _, hd, sE.k2, ⟨(show 3 ≤ 1000 by decide), fun l1 H1 n1 => ?_⟩⟩⟩⟩
        have hd1 := n1.2.2 _ _ hd
        refine ⟨_, rfl, .ty "ValueError", .type "ValueError", _, _, rfl, .ty _, hd1, sE.p0, ⟨_, rfl, .ty "LookupError", .type "LookupError", _, _, rfl, .ty _, hd1, sE.p1, ⟨_, rfl, .ty "ArithmeticError", .type "ArithmeticError", _, _, rfl, .ty _, hd1, sE.p2, ⟨(show 3 ≤ 1000 by decide), fun l2 H2 n2 => ?_⟩⟩⟩⟩
        refine ⟨(show 0 ≤ 1000 by decide), fun l3 H3 n3 => ?_⟩
        have s13 := n2.2.2.trans n3.2.2
        have s3 := n1.2.2.trans s13
        have hd3 := s3 _ _ hd
        have hv3 := hv.same s3
        have e1 := s13 _ _ n1.2.1
        have e2 := n3.2.2 _ _ n2.2.1
        have e3 := n3.2.1
        have na : ∀ {b : Addr} {o : HO}, H b = some o → b ≠ l3 := fun e => ne_of_none (n2.2.2 _ _ (n1.2.2 _ _ e)) n3.1
        have n13 : l1 ≠ l3 := ne_of_none (n2.2.2 _ _ n1.2.1) n3.1
        have n23 : l2 ≠ l3 := ne_of_none n2.2.1 n3.1
        clear n1 n2
        refine ⟨_, rfl, .ref c0, .ref c0, _, _, rfl, .own _, hd3, T.m0_0, _, rfl, iteT ?_⟩
        refine ⟨_, rfl, .inl ⟨rfl, _, SqL.of e3⟩, _, rfl, _, v, rfl, hd3, rfl, v, dv, rfl, hv3.1, hv3.2.1, hv3.2.2.1, hv3.2.2.2, ⟨(show 2 ≤ 1000 by decide), fun l4 H4 n4 => ⟨l3, _, _, rfl, rfl, n4.2.2 _ _ e3, small1000 (by decide), ?_⟩⟩⟩
        have n43 : l4 ≠ l3 := fun z => by
          rw [z] at n4
          rw [n4.1] at e3
          cases e3
        have f3 : (upd H4 l3 (.lst ([] ++ [.ref l4]))) l3 = some (.lst [.ref l4]) := upd_same
        have f1 : (upd H4 l3 (.lst ([] ++ [.ref l4]))) l1 = some _ := (upd_ne n13).trans (n4.2.2 _ _ e1)
        have f2 : (upd H4 l3 (.lst ([] ++ [.ref l4]))) l2 = some _ := (upd_ne n23).trans (n4.2.2 _ _ e2)
        have f4 : (upd H4 l3 (.lst ([] ++ [.ref l4]))) l4 = some _ := (upd_ne n43).trans n4.2.1
        have fd : (upd H4 l3 (.lst ([] ++ [.ref l4]))) dd = some _ := (upd_ne (na hd)).trans (n4.2.2 _ _ hd3)
        have s5 : Same H (upd H4 l3 (.lst ([] ++ [.ref l4]))) := fun b o e => (upd_ne (na e)).trans (n4.2.2 _ _ (s3 _ _ e))
        have nH : H l4 = none := by
          cases z : H l4 with
          | none => rfl
          | some u =>
            have z2 := s3 _ _ z
            rw [n4.1] at z2
            cases z2
        generalize upd H4 l3 (.lst ([] ++ [.ref l4])) = H5 at f1 f2 f3 f4 fd s5
        refine ⟨_, rfl, .ref c1, .ref c1, _, _, rfl, .own _, fd, T.m0_1, _, rfl, iteF ?_⟩
        refine ⟨_, rfl, .ref c2, .ref c2, _, _, rfl, .own _, fd, T.m0_2, _, rfl, iteF ?_⟩
        refine ⟨_, rfl, .ref c3, .ref c3, _, _, rfl, .own _, fd, T.m0_3, _, rfl, iteF ?_⟩
        refine ⟨_, rfl, .ref c4, .ref c4, _, _, rfl, .own _, fd, T.m0_4, _, rfl, iteF ?_⟩
        refine ⟨_, rfl, .ref c5, .ref c5, _, _, rfl, .own _, fd, T.m0_5, _, rfl, iteF ?_⟩
        refine ⟨_, rfl, _, _, rfl, .inl ⟨_, SqL.of f3, rfl⟩, rfl, _, rfl, iteT ?_⟩
        refine ⟨_, rfl, _, rfl, _, _, .lst (SqL.of f1) (.cons (.bl _) (.cons (.bl _) (.cons (.bl _) .nil))), .lst (SqL.of f2) (.cons (.bl _) (.cons (.bl _) (.cons (.bl _) .nil))), flags_shp sE.few, flags_shp sE.few, _, rfl, ?_⟩
        rw [flags_eq sE.few]
        refine iteT ?_
        refine ⟨_, rfl, .inl ⟨rfl, _, SqL.of f1⟩, l1, _, .bl true, rfl, rfl, SqL.of f1, rfl, rfl, rfl, _, rfl, ?_⟩
        rw [flags_one sE.few]
        refine iteT ?_
        exact ⟨_, rfl, l3, _, 0, _, rfl, rfl, SqL.of f3, rfl, k l4 H5 ⟨nH, f4, s5⟩⟩
      · refine ⟨_, PSs.nox <| pss_cons (ps_set (i := 1) scSort.nd rfl (.inl rfl) (pe_lstR (pa_cons (pe_callB (call_isP hp hz hf T.s1.i) (by rfl) U.isi boot_isinstance (pa_cons (pv 0) (pa_cons (pe_glob (v := .ref b0) (by rfl) B.g0 rfl) pa_nil))) (pa_cons (pe_callB (call_isP hp hz hf T.s1.i) (by rfl) U.isi boot_isinstance (pa_cons (pv 0) (pa_cons (pe_glob (v := .ref b1) (by rfl) B.g1 rfl) pa_nil))) (pa_cons (pe_callB (call_isP hp hz hf T.s1.i) (by rfl) U.isi boot_isinstance (pa_cons (pv 0) (pa_cons (pe_glob (v := .ref b2) (by rfl) B.g2 rfl) pa_nil))) pa_nil)))))
          <| pss_cons (ps_set (i := 2) scSort.nd rfl (.inl rfl) (pe_lstR (pa_cons (pe_callB (call_isP hp hz hf T.s1.i) (by rfl) U.isi boot_isinstance (pa_cons (pv 0) (pa_cons (pe_bltn (v := .ty "ValueError") (by rfl) U.ve (by decide +kernel) rfl) pa_nil))) (pa_cons (pe_callB (call_isP hp hz hf T.s1.i) (by rfl) U.isi boot_isinstance (pa_cons (pv 0) (pa_cons (pe_bltn (v := .ty "LookupError") (by rfl) U.le (by decide +kernel) rfl) pa_nil))) (pa_cons (pe_callB (call_isP hp hz hf T.s1.i) (by rfl) U.isi boot_isinstance (pa_cons (pv 0) (pa_cons (pe_bltn (v := .ty "ArithmeticError") (by rfl) U.ae (by decide +kernel) rfl) pa_nil))) pa_nil)))))
          <| pss_cons (ps_set (i := 3) scSort.nd rfl (.inl rfl) (pe_lstR pa_nil))
          <| pss_cons (ps_if (pt_val (pe_callB (call_isP hp hz hf T.s1.i) (by rfl) U.isi boot_isinstance (pa_cons (pv 0) (pa_cons (pe_glob (v := .ref c0) (by rfl) T.g0 rfl) pa_nil)))) (pss_one ps_never) pss_nil)
          <| pss_cons (ps_if (pt_val (pe_callB (call_isP hp hz hf T.s1.i) (by rfl) U.isi boot_isinstance (pa_cons (pv 0) (pa_cons (pe_glob (v := .ref c1) (by rfl) T.g1 rfl) pa_nil)))) (pss_one (ps_expr (pe_bm PySem.F.plainAttrs_list PySem.F.slot_list_append PySem.F.type_list_append mt_append (pv 3) (pa_cons (pe_lstR (pa_cons pe_str (pa_cons (pe_callB (call_repr hgd hu) (by rfl) U.repr boot_repr (pa_cons (pe_xp T.s1.x T.s1.no hp hz hf (pv 0)) pa_nil)) pa_nil))) pa_nil)))) pss_nil)
          <| pss_cons (ps_if (pt_val (pe_callB (call_isP hp hz hf T.s1.i) (by rfl) U.isi boot_isinstance (pa_cons (pv 0) (pa_cons (pe_glob (v := .ref c2) (by rfl) T.g2 rfl) pa_nil)))) (pss_one ps_never) pss_nil)
          <| pss_cons (ps_if (pt_val (pe_callB (call_isP hp hz hf T.s1.i) (by rfl) U.isi boot_isinstance (pa_cons (pv 0) (pa_cons (pe_glob (v := .ref c3) (by rfl) T.g3 rfl) pa_nil)))) (pss_one ps_never) pss_nil)
          <| pss_cons (ps_if (pt_val (pe_callB (call_isP hp hz hf T.s1.i) (by rfl) U.isi boot_isinstance (pa_cons (pv 0) (pa_cons (pe_glob (v := .ref c4) (by rfl) T.g4 rfl) pa_nil)))) (pss_one ps_never) pss_nil)
          <| pss_cons (ps_if (pt_val (pe_callB (call_isP hp hz hf T.s1.i) (by rfl) U.isi boot_isinstance (pa_cons (pv 0) (pa_cons (pe_glob (v := .ref c5) (by rfl) T.g5 rfl) pa_nil)))) (pss_one ps_never) pss_nil)
          <| pss_one (ps_ret (pe_ifExp (PW.pt (pw_and (pt_cmpR op_eq (pe_callB call_len (by rfl) U.len PySem.boot_len (pa_cons (pv 3) pa_nil)) pe_int (nomark _)) (pw_and (pt_cmpR (op_eqD hu) (pv 1) (pv 2) (nomark _)) (pw_and1 (pt_cmpR op_eq (pe_bm PySem.F.plainAttrs_list PySem.F.slot_list_count PySem.F.type_list_count mt_lcountF (pv 1) (pa_cons pe_bl pa_nil)) pe_int (nomark _))))))
              (pe_ix ix_list (pv 3) pe_int (fun _ _ => rfl)) (pe_lstR (pa_cons pe_str (pa_cons pe_str pa_nil))))), ?_⟩
        have sE := T.s1
        refine ⟨_, rfl, .ref b0, .ref b0, _, _, rfl, .own _, hd, sE.k0, ⟨_, rfl, .ref b1, .ref b1, _, _, rfl, .own _, hd, sE.k1, ⟨_, rfl, .ref b2, .ref b2, _, _, rfl, .own _, hd, sE.k2, ⟨(show 3 ≤ 1000 by decide), fun l1 H1 n1 => ?_⟩⟩⟩⟩
        have hd1 := n1.2.2 _ _ hd
        refine ⟨_, rfl, .ty "ValueError", .type "ValueError", _, _, rfl, .ty _, hd1, sE.p0, ⟨_, rfl, .ty "LookupError", .type "LookupError", _, _, rfl, .ty _, hd1, sE.p1, ⟨_, rfl, .ty "ArithmeticError", .type "ArithmeticError", _, _, rfl, .ty _, hd1, sE.p2, ⟨(show 3 ≤ 1000 by decide), fun l2 H2 n2 => ?_⟩⟩⟩⟩
        refine ⟨(show 0 ≤ 1000 by decide), fun l3 H3 n3 => ?_⟩
        have s13 := n2.2.2.trans n3.2.2
        have s3 := n1.2.2.trans s13
        have hd3 := s3 _ _ hd
        have hv3 := hv.same s3
        have e1 := s13 _ _ n1.2.1
        have e2 := n3.2.2 _ _ n2.2.1
        have e3 := n3.2.1
        have na : ∀ {b : Addr} {o : HO}, H b = some o → b ≠ l3 := fun e => ne_of_none (n2.2.2 _ _ (n1.2.2 _ _ e)) n3.1
        have n13 : l1 ≠ l3 := ne_of_none (n2.2.2 _ _ n1.2.1) n3.1
        have n23 : l2 ≠ l3 := ne_of_none n2.2.1 n3.1
        clear n1 n2
        refine ⟨_, rfl, .ref c0, .ref c0, _, _, rfl, .own _, hd3, T.m1_0, _, rfl, iteF ?_⟩
        refine ⟨_, rfl, .ref c1, .ref c1, _, _, rfl, .own _, hd3, T.m1_1, _, rfl, iteT ?_⟩
        refine ⟨_, rfl, .inl ⟨rfl, _, SqL.of e3⟩, _, rfl, _, v, rfl, hd3, rfl, v, dv, rfl, hv3.1, hv3.2.1, hv3.2.2.1, hv3.2.2.2, ⟨(show 2 ≤ 1000 by decide), fun l4 H4 n4 => ⟨l3, _, _, rfl, rfl, n4.2.2 _ _ e3, small1000 (by decide), ?_⟩⟩⟩
        have n43 : l4 ≠ l3 := fun z => by
          rw [z] at n4
          rw [n4.1] at e3
          cases e3
        have f3 : (upd H4 l3 (.lst ([] ++ [.ref l4]))) l3 = some (.lst [.ref l4]) := upd_same
        have f1 : (upd H4 l3 (.lst ([] ++ [.ref l4]))) l1 = some _ := (upd_ne n13).trans (n4.2.2 _ _ e1)
        have f2 : (upd H4 l3 (.lst ([] ++ [.ref l4]))) l2 = some _ := (upd_ne n23).trans (n4.2.2 _ _ e2)
        have f4 : (upd H4 l3 (.lst ([] ++ [.ref l4]))) l4 = some _ := (upd_ne n43).trans n4.2.1
        have fd : (upd H4 l3 (.lst ([] ++ [.ref l4]))) dd = some _ := (upd_ne (na hd)).trans (n4.2.2 _ _ hd3)
        have s5 : Same H (upd H4 l3 (.lst ([] ++ [.ref l4]))) := fun b o e => (upd_ne (na e)).trans (n4.2.2 _ _ (s3 _ _ e))
        have nH : H l4 = none := by
          cases z : H l4 with
          | none => rfl
          | some u =>
            have z2 := s3 _ _ z
            rw [n4.1] at z2
            cases z2
        generalize upd H4 l3 (.lst ([] ++ [.ref l4])) = H5 at f1 f2 f3 f4 fd s5
        refine ⟨_, rfl, .ref c2, .ref c2, _, _, rfl, .own _, fd, T.m1_2, _, rfl, iteF ?_⟩
        refine ⟨_, rfl, .ref c3, .ref c3, _, _, rfl, .own _, fd, T.m1_3, _, rfl, iteF ?_⟩
        refine ⟨_, rfl, .ref c4, .ref c4, _, _, rfl, .own _, fd, T.m1_4, _, rfl, iteF ?_⟩
        refine ⟨_, rfl, .ref c5, .ref c5, _, _, rfl, .own _, fd, T.m1_5, _, rfl, iteF ?_⟩
        refine ⟨_, rfl, _, _, rfl, .inl ⟨_, SqL.of f3, rfl⟩, rfl, _, rfl, iteT ?_⟩
        refine ⟨_, rfl, _, rfl, _, _, .lst (SqL.of f1) (.cons (.bl _) (.cons (.bl _) (.cons (.bl _) .nil))), .lst (SqL.of f2) (.cons (.bl _) (.cons (.bl _) (.cons (.bl _) .nil))), flags_shp sE.few, flags_shp sE.few, _, rfl, ?_⟩
        rw [flags_eq sE.few]
        refine iteT ?_
        refine ⟨_, rfl, .inl ⟨rfl, _, SqL.of f1⟩, l1, _, .bl true, rfl, rfl, SqL.of f1, rfl, rfl, rfl, _, rfl, ?_⟩
        rw [flags_one sE.few]
        refine iteT ?_
        exact ⟨_, rfl, l3, _, 0, _, rfl, rfl, SqL.of f3, rfl, k l4 H5 ⟨nH, f4, s5⟩⟩
      · refine ⟨_, PSs.nox <| pss_cons (ps_set (i := 1) scSort.nd rfl (.inl rfl) (pe_lstR (pa_cons (pe_callB (call_isP hp hz hf T.s2.i) (by rfl) U.isi boot_isinstance (pa_cons (pv 0) (pa_cons (pe_glob (v := .ref b0) (by rfl) B.g0 rfl) pa_nil))) (pa_cons (pe_callB (call_isP hp hz hf T.s2.i) (by rfl) U.isi boot_isinstance (pa_cons (pv 0) (pa_cons (pe_glob (v := .ref b1) (by rfl) B.g1 rfl) pa_nil))) (pa_cons (pe_callB (call_isP hp hz hf T.s2.i) (by rfl) U.isi boot_isinstance (pa_cons (pv 0) (pa_cons (pe_glob (v := .ref b2) (by rfl) B.g2 rfl) pa_nil))) pa_nil)))))
          <| pss_cons (ps_set (i := 2) scSort.nd rfl (.inl rfl) (pe_lstR (pa_cons (pe_callB (call_isP hp hz hf T.s2.i) (by rfl) U.isi boot_isinstance (pa_cons (pv 0) (pa_cons (pe_bltn (v := .ty "ValueError") (by rfl) U.ve (by decide +kernel) rfl) pa_nil))) (pa_cons (pe_callB (call_isP hp hz hf T.s2.i) (by rfl) U.isi boot_isinstance (pa_cons (pv 0) (pa_cons (pe_bltn (v := .ty "LookupError") (by rfl) U.le (by decide +kernel) rfl) pa_nil))) (pa_cons (pe_callB (call_isP hp hz hf T.s2.i) (by rfl) U.isi boot_isinstance (pa_cons (pv 0) (pa_cons (pe_bltn (v := .ty "ArithmeticError") (by rfl) U.ae (by decide +kernel) rfl) pa_nil))) pa_nil)))))
          <| pss_cons (ps_set (i := 3) scSort.nd rfl (.inl rfl) (pe_lstR pa_nil))
          <| pss_cons (ps_if (pt_val (pe_callB (call_isP hp hz hf T.s2.i) (by rfl) U.isi boot_isinstance (pa_cons (pv 0) (pa_cons (pe_glob (v := .ref c0) (by rfl) T.g0 rfl) pa_nil)))) (pss_one ps_never) pss_nil)
          <| pss_cons (ps_if (pt_val (pe_callB (call_isP hp hz hf T.s2.i) (by rfl) U.isi boot_isinstance (pa_cons (pv 0) (pa_cons (pe_glob (v := .ref c1) (by rfl) T.g1 rfl) pa_nil)))) (pss_one ps_never) pss_nil)
          <| pss_cons (ps_if (pt_val (pe_callB (call_isP hp hz hf T.s2.i) (by rfl) U.isi boot_isinstance (pa_cons (pv 0) (pa_cons (pe_glob (v := .ref c2) (by rfl) T.g2 rfl) pa_nil)))) (pss_one (ps_expr (pe_bm PySem.F.plainAttrs_list PySem.F.slot_list_append PySem.F.type_list_append mt_append (pv 3) (pa_cons (pe_lstR (pa_cons pe_str (pa_cons (pe_callB (call_repr hgd hu) (by rfl) U.repr boot_repr (pa_cons (pe_xp T.s2.x T.s2.no hp hz hf (pv 0)) pa_nil)) pa_nil))) pa_nil)))) pss_nil)
          <| pss_cons (ps_if (pt_val (pe_callB (call_isP hp hz hf T.s2.i) (by rfl) U.isi boot_isinstance (pa_cons (pv 0) (pa_cons (pe_glob (v := .ref c3) (by rfl) T.g3 rfl) pa_nil)))) (pss_one ps_never) pss_nil)
          <| pss_cons (ps_if (pt_val (pe_callB (call_isP hp hz hf T.s2.i) (by rfl) U.isi boot_isinstance (pa_cons (pv 0) (pa_cons (pe_glob (v := .ref c4) (by rfl) T.g4 rfl) pa_nil)))) (pss_one ps_never) pss_nil)
          <| pss_cons (ps_if (pt_val (pe_callB (call_isP hp hz hf T.s2.i) (by rfl) U.isi boot_isinstance (pa_cons (pv 0) (pa_cons (pe_glob (v := .ref c5) (by rfl) T.g5 rfl) pa_nil)))) (pss_one ps_never) pss_nil)
          <| pss_one (ps_ret (pe_ifExp (PW.pt (pw_and (pt_cmpR op_eq (pe_callB call_len (by rfl) U.len PySem.boot_len (pa_cons (pv 3) pa_nil)) pe_int (nomark _)) (pw_and (pt_cmpR (op_eqD hu) (pv 1) (pv 2) (nomark _)) (pw_and1 (pt_cmpR op_eq (pe_bm PySem.F.plainAttrs_list PySem.F.slot_list_count PySem.F.type_list_count mt_lcountF (pv 1) (pa_cons pe_bl pa_nil)) pe_int (nomark _))))))
              (pe_ix ix_list (pv 3) pe_int (fun _ _ => rfl)) (pe_lstR (pa_cons pe_str (pa_cons pe_str pa_nil))))), ?_⟩
        have sE := T.s2
        refine ⟨_, rfl, .ref b0, .ref b0, _, _, rfl, .own _, hd, sE.k0, ⟨_, rfl, .ref b1, .ref b1, _, _, rfl, .own _, hd, sE.k1, ⟨_, rfl, .ref b2, .ref b2, _, _, rfl, .own _, hd, sE.k2, ⟨(show 3 ≤ 1000 by decide), fun l1 H1 n1 => ?_⟩⟩⟩⟩
        have hd1 := n1.2.2 _ _ hd
        refine ⟨_, rfl, .ty "ValueError", .type "ValueError", _, _, rfl, .ty _, hd1, sE.p0, ⟨_, rfl, .ty "LookupError", .type "LookupError", _, _, rfl, .ty _, hd1, sE.p1, ⟨_, rfl, .ty "ArithmeticError", .type "ArithmeticError", _, _, rfl, .ty _, hd1, sE.p2, ⟨(show 3 ≤ 1000 by decide), fun l2 H2 n2 => ?_⟩⟩⟩⟩
        refine ⟨(show 0 ≤ 1000 by decide), fun l3 H3 n3 => ?_⟩
        have s13 := n2.2.2.trans n3.2.2
        have s3 := n1.2.2.trans s13
        have hd3 := s3 _ _ hd
        have hv3 := hv.same s3
        have e1 := s13 _ _ n1.2.1
        have e2 := n3.2.2 _ _ n2.2.1
        have e3 := n3.2.1
        have na : ∀ {b : Addr} {o : HO}, H b = some o → b ≠ l3 := fun e => ne_of_none (n2.2.2 _ _ (n1.2.2 _ _ e)) n3.1
        have n13 : l1 ≠ l3 := ne_of_none (n2.2.2 _ _ n1.2.1) n3.1
        have n23 : l2 ≠ l3 := ne_of_none n2.2.1 n3.1
        clear n1 n2
        refine ⟨_, rfl, .ref c0, .ref c0, _, _, rfl, .own _, hd3, T.m2_0, _, rfl, iteF ?_⟩
        refine ⟨_, rfl, .ref c1, .ref c1, _, _, rfl, .own _, hd3, T.m2_1, _, rfl, iteF ?_⟩
        refine ⟨_, rfl, .ref c2, .ref c2, _, _, rfl, .own _, hd3, T.m2_2, _, rfl, iteT ?_⟩
        refine ⟨_, rfl, .inl ⟨rfl, _, SqL.of e3⟩, _, rfl, _, v, rfl, hd3, rfl, v, dv, rfl, hv3.1, hv3.2.1, hv3.2.2.1, hv3.2.2.2, ⟨(show 2 ≤ 1000 by decide), fun l4 H4 n4 => ⟨l3, _, _, rfl, rfl, n4.2.2 _ _ e3, small1000 (by decide), ?_⟩⟩⟩
        have n43 : l4 ≠ l3 := fun z => by
          rw [z] at n4
          rw [n4.1] at e3
          cases e3
        have f3 : (upd H4 l3 (.lst ([] ++ [.ref l4]))) l3 = some (.lst [.ref l4]) := upd_same
        have f1 : (upd H4 l3 (.lst ([] ++ [.ref l4]))) l1 = some _ := (upd_ne n13).trans (n4.2.2 _ _ e1)
        have f2 : (upd H4 l3 (.lst ([] ++ [.ref l4]))) l2 = some _ := (upd_ne n23).trans (n4.2.2 _ _ e2)
        have f4 : (upd H4 l3 (.lst ([] ++ [.ref l4]))) l4 = some _ := (upd_ne n43).trans n4.2.1
        have fd : (upd H4 l3 (.lst ([] ++ [.ref l4]))) dd = some _ := (upd_ne (na hd)).trans (n4.2.2 _ _ hd3)
        have s5 : Same H (upd H4 l3 (.lst ([] ++ [.ref l4]))) := fun b o e => (upd_ne (na e)).trans (n4.2.2 _ _ (s3 _ _ e))
        have nH : H l4 = none := by
          cases z : H l4 with
          | none => rfl
          | some u =>
            have z2 := s3 _ _ z
            rw [n4.1] at z2
            cases z2
        generalize upd H4 l3 (.lst ([] ++ [.ref l4])) = H5 at f1 f2 f3 f4 fd s5
        refine ⟨_, rfl, .ref c3, .ref c3, _, _, rfl, .own _, fd, T.m2_3, _, rfl, iteF ?_⟩
        refine ⟨_, rfl, .ref c4, .ref c4, _, _, rfl, .own _, fd, T.m2_4, _, rfl, iteF ?_⟩
        refine ⟨_, rfl, .ref c5, .ref c5, _, _, rfl, .own _, fd, T.m2_5, _, rfl, iteF ?_⟩
        refine ⟨_, rfl, _, _, rfl, .inl ⟨_, SqL.of f3, rfl⟩, rfl, _, rfl, iteT ?_⟩
        refine ⟨_, rfl, _, rfl, _, _, .lst (SqL.of f1) (.cons (.bl _) (.cons (.bl _) (.cons (.bl _) .nil))), .lst (SqL.of f2) (.cons (.bl _) (.cons (.bl _) (.cons (.bl _) .nil))), flags_shp sE.few, flags_shp sE.few, _, rfl, ?_⟩
        rw [flags_eq sE.few]
        refine iteT ?_
        refine ⟨_, rfl, .inl ⟨rfl, _, SqL.of f1⟩, l1, _, .bl true, rfl, rfl, SqL.of f1, rfl, rfl, rfl, _, rfl, ?_⟩
        rw [flags_one sE.few]
        refine iteT ?_
        exact ⟨_, rfl, l3, _, 0, _, rfl, rfl, SqL.of f3, rfl, k l4 H5 ⟨nH, f4, s5⟩⟩
      · refine ⟨_, PSs.nox <| pss_cons (ps_set (i := 1) scSort.nd rfl (.inl rfl) (pe_lstR (pa_cons (pe_callB (call_isP hp hz hf T.s3.i) (by rfl) U.isi boot_isinstance (pa_cons (pv 0) (pa_cons (pe_glob (v := .ref b0) (by rfl) B.g0 rfl) pa_nil))) (pa_cons (pe_callB (call_isP hp hz hf T.s3.i) (by rfl) U.isi boot_isinstance (pa_cons (pv 0) (pa_cons (pe_glob (v := .ref b1) (by rfl) B.g1 rfl) pa_nil))) (pa_cons (pe_callB (call_isP hp hz hf T.s3.i) (by rfl) U.isi boot_isinstance (pa_cons (pv 0) (pa_cons (pe_glob (v := .ref b2) (by rfl) B.g2 rfl) pa_nil))) pa_nil)))))
          <| pss_cons (ps_set (i := 2) scSort.nd rfl (.inl rfl) (pe_lstR (pa_cons (pe_callB (call_isP hp hz hf T.s3.i) (by rfl) U.isi boot_isinstance (pa_cons (pv 0) (pa_cons (pe_bltn (v := .ty "ValueError") (by rfl) U.ve (by decide +kernel) rfl) pa_nil))) (pa_cons (pe_callB (call_isP hp hz hf T.s3.i) (by rfl) U.isi boot_isinstance (pa_cons (pv 0) (pa_cons (pe_bltn (v := .ty "LookupError") (by rfl) U.le (by decide +kernel) rfl) pa_nil))) (pa_cons (pe_callB (call_isP hp hz hf T.s3.i) (by rfl) U.isi boot_isinstance (pa_cons (pv 0) (pa_cons (pe_bltn (v := .ty "ArithmeticError") (by rfl) U.ae (by decide +kernel) rfl) pa_nil))) pa_nil)))))
          <| pss_cons (ps_set (i := 3) scSort.nd rfl (.inl rfl) (pe_lstR pa_nil))
          <| pss_cons (ps_if (pt_val (pe_callB (call_isP hp hz hf T.s3.i) (by rfl) U.isi boot_isinstance (pa_cons (pv 0) (pa_cons (pe_glob (v := .ref c0) (by rfl) T.g0 rfl) pa_nil)))) (pss_one ps_never) pss_nil)
          <| pss_cons (ps_if (pt_val (pe_callB (call_isP hp hz hf T.s3.i) (by rfl) U.isi boot_isinstance (pa_cons (pv 0) (pa_cons (pe_glob (v := .ref c1) (by rfl) T.g1 rfl) pa_nil)))) (pss_one ps_never) pss_nil)
          <| pss_cons (ps_if (pt_val (pe_callB (call_isP hp hz hf T.s3.i) (by rfl) U.isi boot_isinstance (pa_cons (pv 0) (pa_cons (pe_glob (v := .ref c2) (by rfl) T.g2 rfl) pa_nil)))) (pss_one ps_never) pss_nil)
          <| pss_cons (ps_if (pt_val (pe_callB (call_isP hp hz hf T.s3.i) (by rfl) U.isi boot_isinstance (pa_cons (pv 0) (pa_cons (pe_glob (v := .ref c3) (by rfl) T.g3 rfl) pa_nil)))) (pss_one (ps_expr (pe_bm PySem.F.plainAttrs_list PySem.F.slot_list_append PySem.F.type_list_append mt_append (pv 3) (pa_cons (pe_lstR (pa_cons pe_str (pa_cons (pe_callB (call_repr hgd hu) (by rfl) U.repr boot_repr (pa_cons (pe_xp T.s3.x T.s3.no hp hz hf (pv 0)) pa_nil)) pa_nil))) pa_nil)))) pss_nil)
          <| pss_cons (ps_if (pt_val (pe_callB (call_isP hp hz hf T.s3.i) (by rfl) U.isi boot_isinstance (pa_cons (pv 0) (pa_cons (pe_glob (v := .ref c4) (by rfl) T.g4 rfl) pa_nil)))) (pss_one ps_never) pss_nil)
          <| pss_cons (ps_if (pt_val (pe_callB (call_isP hp hz hf T.s3.i) (by rfl) U.isi boot_isinstance (pa_cons (pv 0) (pa_cons (pe_glob (v := .ref c5) (by rfl) T.g5 rfl) pa_nil)))) (pss_one ps_never) pss_nil)
          <| pss_one (ps_ret (pe_ifExp (PW.pt (pw_and (pt_cmpR op_eq (pe_callB call_len (by rfl) U.len PySem.boot_len (pa_cons (pv 3) pa_nil)) pe_int (nomark _)) (pw_and (pt_cmpR (op_eqD hu) (pv 1) (pv 2) (nomark _)) (pw_and1 (pt_cmpR op_eq (pe_bm PySem.F.plainAttrs_list PySem.F.slot_list_count PySem.F.type_list_count mt_lcountF (pv 1) (pa_cons pe_bl pa_nil)) pe_int (nomark _))))))
              (pe_ix ix_list (pv 3) pe_int (fun _ _ => rfl)) (pe_lstR (pa_cons pe_str (pa_cons pe_str pa_nil))))), ?_⟩
        have sE := T.s3
        refine ⟨_, rfl, .ref b0, .ref b0, _, _, rfl, .own _, hd, sE.k0, ⟨_, rfl, .ref b1, .ref b1, _, _, rfl, .own _, hd, sE.k1, ⟨_, rfl, .ref b2, .ref b2, _, _, rfl, .own _, hd, sE.k2, ⟨(show 3 ≤ 1000 by decide), fun l1 H1 n1 => ?_⟩⟩⟩⟩
        have hd1 := n1.2.2 _ _ hd
        refine ⟨_, rfl, .ty "ValueError", .type "ValueError", _, _, rfl, .ty _, hd1, sE.p0, ⟨_, rfl, .ty "LookupError", .type "LookupError", _, _, rfl, .ty _, hd1, sE.p1, ⟨_, rfl, .ty "ArithmeticError", .type "ArithmeticError", _, _, rfl, .ty _, hd1, sE.p2, ⟨(show 3 ≤ 1000 by decide), fun l2 H2 n2 => ?_⟩⟩⟩⟩
        refine ⟨(show 0 ≤ 1000 by decide), fun l3 H3 n3 => ?_⟩
        have s13 := n2.2.2.trans n3.2.2
        have s3 := n1.2.2.trans s13
        have hd3 := s3 _ _ hd
        have hv3 := hv.same s3
        have e1 := s13 _ _ n1.2.1
        have e2 := n3.2.2 _ _ n2.2.1
        have e3 := n3.2.1
        have na : ∀ {b : Addr} {o : HO}, H b = some o → b ≠ l3 := fun e => ne_of_none (n2.2.2 _ _ (n1.2.2 _ _ e)) n3.1
        have n13 : l1 ≠ l3 := ne_of_none (n2.2.2 _ _ n1.2.1) n3.1
        have n23 : l2 ≠ l3 := ne_of_none n2.2.1 n3.1
        clear n1 n2
        refine ⟨_, rfl, .ref c0, .ref c0, _, _, rfl, .own _, hd3, T.m3_0, _, rfl, iteF ?_⟩
        refine ⟨_, rfl, .ref c1, .ref c1, _, _, rfl, .own _, hd3, T.m3_1, _, rfl, iteF ?_⟩
        refine ⟨_, rfl, .ref c2, .ref c2, _, _, rfl, .own _, hd3, T.m3_2, _, rfl, iteF ?_⟩
        refine ⟨_, rfl, .ref c3, .ref c3, _, _, rfl, .own _, hd3, T.m3_3, _, rfl, iteT ?_⟩
        refine ⟨_, rfl, .inl ⟨rfl, _, SqL.of e3⟩, _, rfl, _, v, rfl, hd3, rfl, v, dv, rfl, hv3.1, hv3.2.1, hv3.2.2.1, hv3.2.2.2, ⟨(show 2 ≤ 1000 by decide), fun l4 H4 n4 => ⟨l3, _, _, rfl, rfl, n4.2.2 _ _ e3, small1000 (by decide), ?_⟩⟩⟩
        have n43 : l4 ≠ l3 := fun z => by
          rw [z] at n4
          rw [n4.1] at e3
          cases e3
        have f3 : (upd H4 l3 (.lst ([] ++ [.ref l4]))) l3 = some (.lst [.ref l4]) := upd_same
        have f1 : (upd H4 l3 (.lst ([] ++ [.ref l4]))) l1 = some _ := (upd_ne n13).trans (n4.2.2 _ _ e1)
        have f2 : (upd H4 l3 (.lst ([] ++ [.ref l4]))) l2 = some _ := (upd_ne n23).trans (n4.2.2 _ _ e2)
        have f4 : (upd H4 l3 (.lst ([] ++ [.ref l4]))) l4 = some _ := (upd_ne n43).trans n4.2.1
        have fd : (upd H4 l3 (.lst ([] ++ [.ref l4]))) dd = some _ := (upd_ne (na hd)).trans (n4.2.2 _ _ hd3)
        have s5 : Same H (upd H4 l3 (.lst ([] ++ [.ref l4]))) := fun b o e => (upd_ne (na e)).trans (n4.2.2 _ _ (s3 _ _ e))
        have nH : H l4 = none := by
          cases z : H l4 with
          | none => rfl
          | some u =>
            have z2 := s3 _ _ z
            rw [n4.1] at z2
            cases z2
        generalize upd H4 l3 (.lst ([] ++ [.ref l4])) = H5 at f1 f2 f3 f4 fd s5
        refine ⟨_, rfl, .ref c4, .ref c4, _, _, rfl, .own _, fd, T.m3_4, _, rfl, iteF ?_⟩
        refine ⟨_, rfl, .ref c5, .ref c5, _, _, rfl, .own _, fd, T.m3_5, _, rfl, iteF ?_⟩
        refine ⟨_, rfl, _, _, rfl, .inl ⟨_, SqL.of f3, rfl⟩, rfl, _, rfl, iteT ?_⟩
        refine ⟨_, rfl, _, rfl, _, _, .lst (SqL.of f1) (.cons (.bl _) (.cons (.bl _) (.cons (.bl _) .nil))), .lst (SqL.of f2) (.cons (.bl _) (.cons (.bl _) (.cons (.bl _) .nil))), flags_shp sE.few, flags_shp sE.few, _, rfl, ?_⟩
        rw [flags_eq sE.few]
        refine iteT ?_
        refine ⟨_, rfl, .inl ⟨rfl, _, SqL.of f1⟩, l1, _, .bl true, rfl, rfl, SqL.of f1, rfl, rfl, rfl, _, rfl, ?_⟩
        rw [flags_one sE.few]
        refine iteT ?_
        exact ⟨_, rfl, l3, _, 0, _, rfl, rfl, SqL.of f3, rfl, k l4 H5 ⟨nH, f4, s5⟩⟩
      · refine ⟨_, PSs.nox <| pss_cons (ps_set (i := 1) scSort.nd rfl (.inl rfl) (pe_lstR (pa_cons (pe_callB (call_isP hp hz hf T.s4.i) (by rfl) U.isi boot_isinstance (pa_cons (pv 0) (pa_cons (pe_glob (v := .ref b0) (by rfl) B.g0 rfl) pa_nil))) (pa_cons (pe_callB (call_isP hp hz hf T.s4.i) (by rfl) U.isi boot_isinstance (pa_cons (pv 0) (pa_cons (pe_glob (v := .ref b1) (by rfl) B.g1 rfl) pa_nil))) (pa_cons (pe_callB (call_isP hp hz hf T.s4.i) (by rfl) U.isi boot_isinstance (pa_cons (pv 0) (pa_cons (pe_glob (v := .ref b2) (by rfl) B.g2 rfl) pa_nil))) pa_nil)))))
          <| pss_cons (ps_set (i := 2) scSort.nd rfl (.inl rfl) (pe_lstR (pa_cons (pe_callB (call_isP hp hz hf T.s4.i) (by rfl) U.isi boot_isinstance (pa_cons (pv 0) (pa_cons (pe_bltn (v := .ty "ValueError") (by rfl) U.ve (by decide +kernel) rfl) pa_nil))) (pa_cons (pe_callB (call_isP hp hz hf T.s4.i) (by rfl) U.isi boot_isinstance (pa_cons (pv 0) (pa_cons (pe_bltn (v := .ty "LookupError") (by rfl) U.le (by decide +kernel) rfl) pa_nil))) (pa_cons (pe_callB (call_isP hp hz hf T.s4.i) (by rfl) U.isi boot_isinstance (pa_cons (pv 0) (pa_cons (pe_bltn (v := .ty "ArithmeticError") (by rfl) U.ae (by decide +kernel) rfl) pa_nil))) pa_nil)))))
          <| pss_cons (ps_set (i := 3) scSort.nd rfl (.inl rfl) (pe_lstR pa_nil))
          <| pss_cons (ps_if (pt_val (pe_callB (call_isP hp hz hf T.s4.i) (by rfl) U.isi boot_isinstance (pa_cons (pv 0) (pa_cons (pe_glob (v := .ref c0) (by rfl) T.g0 rfl) pa_nil)))) (pss_one ps_never) pss_nil)
          <| pss_cons (ps_if (pt_val (pe_callB (call_isP hp hz hf T.s4.i) (by rfl) U.isi boot_isinstance (pa_cons (pv 0) (pa_cons (pe_glob (v := .ref c1) (by rfl) T.g1 rfl) pa_nil)))) (pss_one ps_never) pss_nil)
          <| pss_cons (ps_if (pt_val (pe_callB (call_isP hp hz hf T.s4.i) (by rfl) U.isi boot_isinstance (pa_cons (pv 0) (pa_cons (pe_glob (v := .ref c2) (by rfl) T.g2 rfl) pa_nil)))) (pss_one ps_never) pss_nil)
          <| pss_cons (ps_if (pt_val (pe_callB (call_isP hp hz hf T.s4.i) (by rfl) U.isi boot_isinstance (pa_cons (pv 0) (pa_cons (pe_glob (v := .ref c3) (by rfl) T.g3 rfl) pa_nil)))) (pss_one ps_never) pss_nil)
          <| pss_cons (ps_if (pt_val (pe_callB (call_isP hp hz hf T.s4.i) (by rfl) U.isi boot_isinstance (pa_cons (pv 0) (pa_cons (pe_glob (v := .ref c4) (by rfl) T.g4 rfl) pa_nil)))) (pss_one (ps_expr (pe_bm PySem.F.plainAttrs_list PySem.F.slot_list_append PySem.F.type_list_append mt_append (pv 3) (pa_cons (pe_lstR (pa_cons pe_str (pa_cons (pe_callB (call_repr hgd hu) (by rfl) U.repr boot_repr (pa_cons (pe_xp T.s4.x T.s4.no hp hz hf (pv 0)) pa_nil)) pa_nil))) pa_nil)))) pss_nil)
          <| pss_cons (ps_if (pt_val (pe_callB (call_isP hp hz hf T.s4.i) (by rfl) U.isi boot_isinstance (pa_cons (pv 0) (pa_cons (pe_glob (v := .ref c5) (by rfl) T.g5 rfl) pa_nil)))) (pss_one ps_never) pss_nil)
          <| pss_one (ps_ret (pe_ifExp (PW.pt (pw_and (pt_cmpR op_eq (pe_callB call_len (by rfl) U.len PySem.boot_len (pa_cons (pv 3) pa_nil)) pe_int (nomark _)) (pw_and (pt_cmpR (op_eqD hu) (pv 1) (pv 2) (nomark _)) (pw_and1 (pt_cmpR op_eq (pe_bm PySem.F.plainAttrs_list PySem.F.slot_list_count PySem.F.type_list_count mt_lcountF (pv 1) (pa_cons pe_bl pa_nil)) pe_int (nomark _))))))
              (pe_ix ix_list (pv 3) pe_int (fun _ _ => rfl)) (pe_lstR (pa_cons pe_str (pa_cons pe_str pa_nil))))), ?_⟩
        have sE := T.s4
        refine ⟨_, rfl, .ref b0, .ref b0, _, _, rfl, .own _, hd, sE.k0, ⟨_, rfl, .ref b1, .ref b1, _, _, rfl, .own _, hd, sE.k1, ⟨_, rfl, .ref b2, .ref b2, _, _, rfl, .own _, hd, sE.k2, ⟨(show 3 ≤ 1000 by decide), fun l1 H1 n1 => ?_⟩⟩⟩⟩
        have hd1 := n1.2.2 _ _ hd
        refine ⟨_, rfl, .ty "ValueError", .type "ValueError", _, _, rfl, .ty _, hd1, sE.p0, ⟨_, rfl, .ty "LookupError", .type "LookupError", _, _, rfl, .ty _, hd1, sE.p1, ⟨_, rfl, .ty "ArithmeticError", .type "ArithmeticError", _, _, rfl, .ty _, hd1, sE.p2, ⟨(show 3 ≤ 1000 by decide), fun l2 H2 n2 => ?_⟩⟩⟩⟩
        refine ⟨(show 0 ≤ 1000 by decide), fun l3 H3 n3 => ?_⟩
        have s13 := n2.2.2.trans n3.2.2
        have s3 := n1.2.2.trans s13
        have hd3 := s3 _ _ hd
        have hv3 := hv.same s3
        have e1 := s13 _ _ n1.2.1
        have e2 := n3.2.2 _ _ n2.2.1
        have e3 := n3.2.1
        have na : ∀ {b : Addr} {o : HO}, H b = some o → b ≠ l3 := fun e => ne_of_none (n2.2.2 _ _ (n1.2.2 _ _ e)) n3.1
        have n13 : l1 ≠ l3 := ne_of_none (n2.2.2 _ _ n1.2.1) n3.1
        have n23 : l2 ≠ l3 := ne_of_none n2.2.1 n3.1
        clear n1 n2
        refine ⟨_, rfl, .ref c0, .ref c0, _, _, rfl, .own _, hd3, T.m4_0, _, rfl, iteF ?_⟩
        refine ⟨_, rfl, .ref c1, .ref c1, _, _, rfl, .own _, hd3, T.m4_1, _, rfl, iteF ?_⟩
        refine ⟨_, rfl, .ref c2, .ref c2, _, _, rfl, .own _, hd3, T.m4_2, _, rfl, iteF ?_⟩
        refine ⟨_, rfl, .ref c3, .ref c3, _, _, rfl, .own _, hd3, T.m4_3, _, rfl, iteF ?_⟩
        refine ⟨_, rfl, .ref c4, .ref c4, _, _, rfl, .own _, hd3, T.m4_4, _, rfl, iteT ?_⟩
        refine ⟨_, rfl, .inl ⟨rfl, _, SqL.of e3⟩, _, rfl, _, v, rfl, hd3, rfl, v, dv, rfl, hv3.1, hv3.2.1, hv3.2.2.1, hv3.2.2.2, ⟨(show 2 ≤ 1000 by decide), fun l4 H4 n4 => ⟨l3, _, _, rfl, rfl, n4.2.2 _ _ e3, small1000 (by decide), ?_⟩⟩⟩
        have n43 : l4 ≠ l3 := fun z => by
          rw [z] at n4
          rw [n4.1] at e3
          cases e3
        have f3 : (upd H4 l3 (.lst ([] ++ [.ref l4]))) l3 = some (.lst [.ref l4]) := upd_same
        have f1 : (upd H4 l3 (.lst ([] ++ [.ref l4]))) l1 = some _ := (upd_ne n13).trans (n4.2.2 _ _ e1)
        have f2 : (upd H4 l3 (.lst ([] ++ [.ref l4]))) l2 = some _ := (upd_ne n23).trans (n4.2.2 _ _ e2)
        have f4 : (upd H4 l3 (.lst ([] ++ [.ref l4]))) l4 = some _ := (upd_ne n43).trans n4.2.1
        have fd : (upd H4 l3 (.lst ([] ++ [.ref l4]))) dd = some _ := (upd_ne (na hd)).trans (n4.2.2 _ _ hd3)
        have s5 : Same H (upd H4 l3 (.lst ([] ++ [.ref l4]))) := fun b o e => (upd_ne (na e)).trans (n4.2.2 _ _ (s3 _ _ e))
        have nH : H l4 = none := by
          cases z : H l4 with
          | none => rfl
          | some u =>
            have z2 := s3 _ _ z
            rw [n4.1] at z2
            cases z2
        generalize upd H4 l3 (.lst ([] ++ [.ref l4])) = H5 at f1 f2 f3 f4 fd s5
        refine ⟨_, rfl, .ref c5, .ref c5, _, _, rfl, .own _, fd, T.m4_5, _, rfl, iteF ?_⟩
        refine ⟨_, rfl, _, _, rfl, .inl ⟨_, SqL.of f3, rfl⟩, rfl, _, rfl, iteT ?_⟩
        refine ⟨_, rfl, _, rfl, _, _, .lst (SqL.of f1) (.cons (.bl _) (.cons (.bl _) (.cons (.bl _) .nil))), .lst (SqL.of f2) (.cons (.bl _) (.cons (.bl _) (.cons (.bl _) .nil))), flags_shp sE.few, flags_shp sE.few, _, rfl, ?_⟩
        rw [flags_eq sE.few]
        refine iteT ?_
        refine ⟨_, rfl, .inl ⟨rfl, _, SqL.of f1⟩, l1, _, .bl true, rfl, rfl, SqL.of f1, rfl, rfl, rfl, _, rfl, ?_⟩
        rw [flags_one sE.few]
        refine iteT ?_
        exact ⟨_, rfl, l3, _, 0, _, rfl, rfl, SqL.of f3, rfl, k l4 H5 ⟨nH, f4, s5⟩⟩
    · rcases ht with rfl
      · refine ⟨_, PSs.nox <| pss_cons (ps_set (i := 1) scSort.nd rfl (.inl rfl) (pe_lstR (pa_cons (pe_callB (call_isP0 hp hz hf T.s5.i) (by rfl) U.isi boot_isinstance (pa_cons (pv 0) (pa_cons (pe_glob (v := .ref b0) (by rfl) B.g0 rfl) pa_nil))) (pa_cons (pe_callB (call_isP0 hp hz hf T.s5.i) (by rfl) U.isi boot_isinstance (pa_cons (pv 0) (pa_cons (pe_glob (v := .ref b1) (by rfl) B.g1 rfl) pa_nil))) (pa_cons (pe_callB (call_isP0 hp hz hf T.s5.i) (by rfl) U.isi boot_isinstance (pa_cons (pv 0) (pa_cons (pe_glob (v := .ref b2) (by rfl) B.g2 rfl) pa_nil))) pa_nil)))))
          <| pss_cons (ps_set (i := 2) scSort.nd rfl (.inl rfl) (pe_lstR (pa_cons (pe_callB (call_isP0 hp hz hf T.s5.i) (by rfl) U.isi boot_isinstance (pa_cons (pv 0) (pa_cons (pe_bltn (v := .ty "ValueError") (by rfl) U.ve (by decide +kernel) rfl) pa_nil))) (pa_cons (pe_callB (call_isP0 hp hz hf T.s5.i) (by rfl) U.isi boot_isinstance (pa_cons (pv 0) (pa_cons (pe_bltn (v := .ty "LookupError") (by rfl) U.le (by decide +kernel) rfl) pa_nil))) (pa_cons (pe_callB (call_isP0 hp hz hf T.s5.i) (by rfl) U.isi boot_isinstance (pa_cons (pv 0) (pa_cons (pe_bltn (v := .ty "ArithmeticError") (by rfl) U.ae (by decide +kernel) rfl) pa_nil))) pa_nil)))))
          <| pss_cons (ps_set (i := 3) scSort.nd rfl (.inl rfl) (pe_lstR pa_nil))
          <| pss_cons (ps_if (pt_val (pe_callB (call_isP0 hp hz hf T.s5.i) (by rfl) U.isi boot_isinstance (pa_cons (pv 0) (pa_cons (pe_glob (v := .ref c0) (by rfl) T.g0 rfl) pa_nil)))) (pss_one ps_never) pss_nil)
          <| pss_cons (ps_if (pt_val (pe_callB (call_isP0 hp hz hf T.s5.i) (by rfl) U.isi boot_isinstance (pa_cons (pv 0) (pa_cons (pe_glob (v := .ref c1) (by rfl) T.g1 rfl) pa_nil)))) (pss_one ps_never) pss_nil)
          <| pss_cons (ps_if (pt_val (pe_callB (call_isP0 hp hz hf T.s5.i) (by rfl) U.isi boot_isinstance (pa_cons (pv 0) (pa_cons (pe_glob (v := .ref c2) (by rfl) T.g2 rfl) pa_nil)))) (pss_one ps_never) pss_nil)
          <| pss_cons (ps_if (pt_val (pe_callB (call_isP0 hp hz hf T.s5.i) (by rfl) U.isi boot_isinstance (pa_cons (pv 0) (pa_cons (pe_glob (v := .ref c3) (by rfl) T.g3 rfl) pa_nil)))) (pss_one ps_never) pss_nil)
          <| pss_cons (ps_if (pt_val (pe_callB (call_isP0 hp hz hf T.s5.i) (by rfl) U.isi boot_isinstance (pa_cons (pv 0) (pa_cons (pe_glob (v := .ref c4) (by rfl) T.g4 rfl) pa_nil)))) (pss_one ps_never) pss_nil)
          <| pss_cons (ps_if (pt_val (pe_callB (call_isP0 hp hz hf T.s5.i) (by rfl) U.isi boot_isinstance (pa_cons (pv 0) (pa_cons (pe_glob (v := .ref c5) (by rfl) T.g5 rfl) pa_nil)))) (pss_one (ps_expr (pe_bm PySem.F.plainAttrs_list PySem.F.slot_list_append PySem.F.type_list_append mt_append (pv 3) (pa_cons (pe_lstR (pa_cons pe_str (pa_cons pe_str pa_nil))) pa_nil)))) pss_nil)
          <| pss_one (ps_ret (pe_ifExp (PW.pt (pw_and (pt_cmpR op_eq (pe_callB call_len (by rfl) U.len PySem.boot_len (pa_cons (pv 3) pa_nil)) pe_int (nomark _)) (pw_and (pt_cmpR (op_eqD hu) (pv 1) (pv 2) (nomark _)) (pw_and1 (pt_cmpR op_eq (pe_bm PySem.F.plainAttrs_list PySem.F.slot_list_count PySem.F.type_list_count mt_lcountF (pv 1) (pa_cons pe_bl pa_nil)) pe_int (nomark _))))))
              (pe_ix ix_list (pv 3) pe_int (fun _ _ => rfl)) (pe_lstR (pa_cons pe_str (pa_cons pe_str pa_nil))))), ?_⟩
        have sE := T.s5
        refine ⟨_, rfl, .ref b0, .ref b0, _, rfl, .own _, sE.k0, ⟨_, rfl, .ref b1, .ref b1, _, rfl, .own _, sE.k1, ⟨_, rfl, .ref b2, .ref b2, _, rfl, .own _, sE.k2, ⟨(show 3 ≤ 1000 by decide), fun l1 H1 n1 => ?_⟩⟩⟩⟩
        refine ⟨_, rfl, .ty "ValueError", .type "ValueError", _, rfl, .ty _, sE.p0, ⟨_, rfl, .ty "LookupError", .type "LookupError", _, rfl, .ty _, sE.p1, ⟨_, rfl, .ty "ArithmeticError", .type "ArithmeticError", _, rfl, .ty _, sE.p2, ⟨(show 3 ≤ 1000 by decide), fun l2 H2 n2 => ?_⟩⟩⟩⟩
        refine ⟨(show 0 ≤ 1000 by decide), fun l3 H3 n3 => ?_⟩
        have s13 := n2.2.2.trans n3.2.2
        have s3 := n1.2.2.trans s13
        have e1 := s13 _ _ n1.2.1
        have e2 := n3.2.2 _ _ n2.2.1
        have e3 := n3.2.1
        have na : ∀ {b : Addr} {o : HO}, H b = some o → b ≠ l3 := fun e => ne_of_none (n2.2.2 _ _ (n1.2.2 _ _ e)) n3.1
        have n13 : l1 ≠ l3 := ne_of_none (n2.2.2 _ _ n1.2.1) n3.1
        have n23 : l2 ≠ l3 := ne_of_none n2.2.1 n3.1
        clear n1 n2
        refine ⟨_, rfl, .ref c0, .ref c0, _, rfl, .own _, T.m5_0, _, rfl, iteF ?_⟩
        refine ⟨_, rfl, .ref c1, .ref c1, _, rfl, .own _, T.m5_1, _, rfl, iteF ?_⟩
        refine ⟨_, rfl, .ref c2, .ref c2, _, rfl, .own _, T.m5_2, _, rfl, iteF ?_⟩
        refine ⟨_, rfl, .ref c3, .ref c3, _, rfl, .own _, T.m5_3, _, rfl, iteF ?_⟩
        refine ⟨_, rfl, .ref c4, .ref c4, _, rfl, .own _, T.m5_4, _, rfl, iteF ?_⟩
        refine ⟨_, rfl, .ref c5, .ref c5, _, rfl, .own _, T.m5_5, _, rfl, iteT ?_⟩
        refine ⟨_, rfl, .inl ⟨rfl, _, SqL.of e3⟩, ⟨(show 2 ≤ 1000 by decide), fun l4 H4 n4 => ⟨l3, _, _, rfl, rfl, n4.2.2 _ _ e3, small1000 (by decide), ?_⟩⟩⟩
        have n43 : l4 ≠ l3 := fun z => by
          rw [z] at n4
          rw [n4.1] at e3
          cases e3
        have f3 : (upd H4 l3 (.lst ([] ++ [.ref l4]))) l3 = some (.lst [.ref l4]) := upd_same
        have f1 : (upd H4 l3 (.lst ([] ++ [.ref l4]))) l1 = some _ := (upd_ne n13).trans (n4.2.2 _ _ e1)
        have f2 : (upd H4 l3 (.lst ([] ++ [.ref l4]))) l2 = some _ := (upd_ne n23).trans (n4.2.2 _ _ e2)
        have f4 : (upd H4 l3 (.lst ([] ++ [.ref l4]))) l4 = some _ := (upd_ne n43).trans n4.2.1
        have s5 : Same H (upd H4 l3 (.lst ([] ++ [.ref l4]))) := fun b o e => (upd_ne (na e)).trans (n4.2.2 _ _ (s3 _ _ e))
        have nH : H l4 = none := by
          cases z : H l4 with
          | none => rfl
          | some u =>
            have z2 := s3 _ _ z
            rw [n4.1] at z2
            cases z2
        generalize upd H4 l3 (.lst ([] ++ [.ref l4])) = H5 at f1 f2 f3 f4 s5
        refine ⟨_, rfl, _, _, rfl, .inl ⟨_, SqL.of f3, rfl⟩, rfl, _, rfl, iteT ?_⟩
        refine ⟨_, rfl, _, rfl, _, _, .lst (SqL.of f1) (.cons (.bl _) (.cons (.bl _) (.cons (.bl _) .nil))), .lst (SqL.of f2) (.cons (.bl _) (.cons (.bl _) (.cons (.bl _) .nil))), flags_shp sE.few, flags_shp sE.few, _, rfl, ?_⟩
        rw [flags_eq sE.few]
        refine iteT ?_
        refine ⟨_, rfl, .inl ⟨rfl, _, SqL.of f1⟩, l1, _, .bl true, rfl, rfl, SqL.of f1, rfl, rfl, rfl, _, rfl, ?_⟩
        rw [flags_one sE.few]
        refine iteT ?_
        exact ⟨_, rfl, l3, _, 0, _, rfl, rfl, SqL.of f3, rfl, k l4 H5 ⟨nH, f4, s5⟩⟩
/-- what answer makes of what it calls -/
def TTans (K : PySem.W.Frag) (es : List (Addr × Str × Str) × List (Addr × Str)) : (XK → Hp → VK → Prop) → Hp → VK → Prop := fun tl H Q => tl (fun c d H' => Told K es c d H' Q) H fun v H' => ∃ x, (some (some v) : Option (Option V)) = some (some x) ∧ ([V.str "back", x] : List V).length ≤ 1000 ∧ ∀ l H2, New H' l (.lst [.str "back", x]) H2 → Q (.ref l) H2
theorem ans_gives {X : Cx} {g fS : Addr} {cdg : Value} {q : Str} {dS : FuncData} (hK : X.K = K) (hmg : X.mg = mg) (hr : Room 2 X.A) (hgd : X.A.guards = some []) (B : Bas K mg b0 b1 b2) (T : Errs K mg b0 b1 b2 c0 c1 c2 c3 c4 c5) (FS : FnP K "_law_sort" sSort fS dS) (gS : mg "_law_sort" = some (.ref fS))
    (GS : FnQ X.prog X.w X.K X.mg X.base 1 fS dS ["_law_e"] (spSort K (known c0 c1 c2 c3 c4 c5))) : LamX.GivesTo X nAns "_law_answer" (defScope sAns) g cdg (defBody sAns) "_law_call_here" q (TTans K (known c0 c1 c2 c3 c4 c5)) := by
  subst hK hmg
  intro f c' s H Q tl act hc h
  have bS : Binds X.K dS ["_law_e"] [] := FS.bindsN fun _ _ _ _ _ _ us hl => match us, hl with | [_], _ => rfl
  have hr1 : RoomH 1 (X.A.deeper (envOfC "_law_answer" (defScope sAns) s.heap.objs.size g cdg)) := roomH_of (hr.deeper _)
  have hg1 : (X.A.deeper (envOfC "_law_answer" (defScope sAns) s.heap.objs.size g cdg)).guards = some [] := deeper_guards hgd
  refine ⟨_, pss_cons (ps_try3 (X := (cxOf C8.CX0 X.prog X.w X.K X.mg X.base nAns "_law_answer" (defScope sAns) g cdg X.A X.stack s H C8.E0).nox) (i := 2)
      (tb := fun W D σ H => ∃ Ech : XK, (∀ cls d σ' H', Ech cls d H' → W cls d σ' H') ∧ σ[0]? = some (some (.ref f)) ∧ H c' = some (LamX.CodeO c' q) ∧ tl Ech H fun v H' => D.nx (σ.set 1 (some v)) H')
      rfl rfl scAns.nd rfl rfl ⟨by rfl, by decide, .inl B.g0⟩ ⟨by rfl, by decide, .inl B.g1⟩ ⟨by rfl, by decide, .inl B.g2⟩ L2.takes0 (fun W pn xe tk _ => ?_)
      (fun a oe cls d pn hz hf => pss_one (ps_ret (pe_callQ GS hg1 ⟨hr1.dp, hr1.un⟩ List.mem_cons_self hz hf (by rfl) gS FS.kp bS (pa_cons (pv 2) pa_nil)))))
    <| pss_one (ps_ret (pe_lstR (pa_cons pe_str (pa_cons (pv 1) pa_nil)))), ?_⟩
  · refine ⟨fun pins s' σ H' D I h' => ?_⟩
    obtain ⟨Ech, hW, h1, h2, h3⟩ := h'
    exact (pss_one (ps_set (i := 1) scAns.nd rfl (.inl rfl) (act W pn xe Ech _ _ tk hW))).run pins s' σ H' D I ⟨h1, h2, h3⟩
  · refine ⟨fun c d H' => Told X.K (known c0 c1 c2 c3 c4 c5) c d H' Q, fun cls d σ' H' hT => ?_, rfl, hc, ?_⟩
    · refine ⟨true, ?_, fun _ a na hl => ?_, fun z => Bool.noConfusion z⟩
      · rcases hT with ⟨t, dd, v, dv, ht, rfl, rest⟩ | ⟨t, ht, rfl, rest⟩ <;> simp only [known, List.mem_cons, List.not_mem_nil, or_false] at ht
        · rcases ht with rfl | rfl | rfl | rfl | rfl
          · exact T.s0.any
          · exact T.s1.any
          · exact T.s2.any
          · exact T.s3.any
          · exact T.s4.any
        · rcases ht with rfl
          · exact T.s5.any
      · exact ⟨_, List.getElem?_set_self (by rw [hl]; exact (show 2 < 3 by decide)), rfl, hT⟩
    · exact h
end
end K5
set_option Elab.async false
set_option linter.all false
set_option maxRecDepth 100000
set_option maxHeartbeats 8000000
namespace K5
open PySem PySem.Spec PyProof.Rows L2 Gd Rl LamX
/-! what stays while tables of code objects grow; a def that knows where its code is -/
theorem codeO_lst {c : Addr} {q : Str} (xs : List V) : CodeO c q ≠ .lst xs := fun z => by
  unfold CodeO at z
  cases z
/-- all stands but perhaps what is at p, and tables -/
def ButT (p : Addr) (H H' : Hp) : Prop := ∀ b o, H b = some o → b ≠ p → (∀ ps, o ≠ .tbl ps) → H' b = some o
theorem ButT.refl {p : Addr} {H : Hp} : ButT p H H := fun _ _ e _ _ => e
theorem ButT.trans {p : Addr} {H H1 H2 : Hp} (a : ButT p H H1) (b : ButT p H1 H2) : ButT p H H2 := fun c o e n t => b c o (a c o e n t) n t
theorem But.t {p : Addr} {H H' : Hp} (b : But p H H') : ButT p H H' := fun c o e n _ => b c o e n
theorem ext_t {p : Addr} {H H' : Hp} (b : ExtN H H') : ButT p H H' := fun c o e _ t => b c o e t
theorem same_ext {H H' : Hp} (s : Same H H') : ExtN H H' := fun b o e _ => s b o e
theorem Pail.ext {H H' : Hp} {p : Addr} (h : Pail H p) (e : ExtN H H') : Pail H' p := by
  obtain ⟨o, st, c, h1, h2⟩ := h
  exact ⟨o, st, c, e _ _ h1 (fun _ q => nomatch q), h2⟩
theorem tabs_but {T : List (Addr × Str)} {p : Addr} {H H' : Hp} (t : Tabs T H) (hp : Pail H p) (b : But p H H') : Tabs T H' := fun q hq => by
  have nl := b.nl hp
  obtain ⟨ps, h1, h2, h3⟩ := t q hq
  refine ⟨ps, nl _ _ h1 (fun _ z => nomatch z), h2, fun pos cv hc => ?_⟩
  obtain ⟨c, e1, e2⟩ := h3 pos cv hc
  exact ⟨c, e1, nl _ _ e2 codeO_lst⟩
theorem tabs_same {T : List (Addr × Str)} {H H' : Hp} (t : Tabs T H) (s : Same H H') : Tabs T H' := t.ext s
/-- a list is put otherwise: the tables stay -/
theorem tabs_upd {T : List (Addr × Str)} {H : Hp} {l : Addr} {X Y : List V} (t : Tabs T H) (h : H l = some (.lst X)) : Tabs T (upd H l (.lst Y)) := fun q hq => by
  have nl := nl_upd (Y := Y) h
  obtain ⟨ps, h1, h2, h3⟩ := t q hq
  refine ⟨ps, nl _ _ h1 (fun _ z => nomatch z), h2, fun pos cv hc => ?_⟩
  obtain ⟨c, e1, e2⟩ := h3 pos cv hc
  exact ⟨c, e1, nl _ _ e2 codeO_lst⟩
theorem seqL_ext {K : PySem.W.Frag} {H H' : Hp} {a : Addr} {xs : List V} (e : ExtN H H') (h : SqL K H a xs) : SqL K H' a xs := by
  rcases h with (h | ⟨o, h⟩) | h
  · exact .inl (.inl (e _ _ h fun _ z => nomatch z))
  · exact .inl (.inr ⟨o, e _ _ h fun _ z => nomatch z⟩)
  · exact .inr h
theorem seqT_ext {K : PySem.W.Frag} {H H' : Hp} {a : Addr} {xs : List V} (e : ExtN H H') (h : SqT K H a xs) : SqT K H' a xs := by
  rcases h with (h | ⟨o, h⟩) | h
  · exact .inl (.inl (e _ _ h fun _ z => nomatch z))
  · exact .inl (.inr ⟨o, e _ _ h fun _ z => nomatch z⟩)
  · exact .inr h
mutual
theorem dp_ext {K : PySem.W.Frag} {H H' : Hp} (e : ExtN H H') : ∀ (d : PyData) {v : V}, Dp K H v d → Dp K H' v d
  | .none, _, h => by cases h; exact .non
  | .bool b, _, h => by cases h; exact .bl b
  | .int i, _, h => by cases h; exact .int i
  | .str z, _, h => by cases h; exact .str z
  | .list ds, _, h => by
    cases h with
    | lst hs ha => exact .lst (seqL_ext e hs) (dp_extAll e ds ha)
  | .tuple ds, _, h => by
    cases h with
    | tup hs ha => exact .tup (seqT_ext e hs) (dp_extAll e ds ha)
  | .dict _, _, h => by cases h
theorem dp_extAll {K : PySem.W.Frag} {H H' : Hp} (e : ExtN H H') : ∀ (ds : List PyData) {vs : List V}, DpAll K H vs ds → DpAll K H' vs ds
  | [], _, h => by cases h; exact .nil
  | d :: ds, _, h => by
    cases h with
    | cons h1 h2 => exact .cons (dp_ext e d h1) (dp_extAll e ds h2)
end
theorem rp_ext {K : PySem.W.Frag} {H H' : Hp} (e : ExtN H H') {d : PyData} {v : V} (h : Rp K H v d) : Rp K H' v d := by
  rcases h with h | ⟨a, kvs, ds, rfl, ha, hp, rfl⟩
  · exact .inl (dp_ext e d h)
  · exact .inr ⟨a, kvs, ds, rfl, e _ _ ha (fun _ z => nomatch z), hp, rfl⟩
/-- the def's code object is at c -/
def CodeAt (K : PySem.W.Frag) (f c : Addr) : Prop := ∃ (oc : Value) (od : Option Addr) (osl : Array (Option Value)) (fd : FuncData), K.lookup f = some ⟨oc, od, .func fd, osl⟩ ∧ fd.code = .ref c
theorem CodeAt.of {K : PySem.W.Frag} {p : Str × Option Str} {c : Addr} (h : CodeAt K (He.fAd K p) c) : (He.cT K p).1 = c := by
  obtain ⟨oc, od, osl, fd, lk, e⟩ := h
  exact He.codeOf_eq lk e
section
variable {P : Program} {w : World} {K : PySem.W.Frag} {mg : Str → Option Value} {base : Heap} {x qual : Str} {params : Arguments} {body : List Stmt} {scope : Scope} {dvs : List V} {kws : List (Str × V)} {f : Addr} {fd : FuncData}
/-- as okG, the code's place told -/
theorem okGc {N ps : List Str} {k : Nat} {sp : Sp} (F : FunD K x qual params body scope dvs kws f fd) (S : FnScope N ps scope) (len : ∀ vs H Q E, sp vs H Q E → vs.length = ps.length)
    (hbody : ∀ (c : Addr) (A : Around) (outer : List Env) (s : Shared) (H : Hp) (vs : List V) (Q : VK) (E : XK), CodeAt K f c → (A.deeper (envOfC qual scope s.heap.objs.size f (.ref c))).guards = some [] → Room k (A.deeper (envOfC qual scope s.heap.objs.size f (.ref c))) → sp vs H Q E →
      ∃ t, PSs (cxOf CX0 P w K mg base N qual scope f (.ref c) A outer s H E) body t ∧ t { nx := fun _ H' => Q .non H', rt := Q } (L2.start N vs) H) : FnG P w K mg base (k + 1) f fd ps sp := by
  have F2 := F
  obtain ⟨oc, od, dV, kV, doc, pm, an, cdv, ct, osl, rfl, lk, hcd, _, _⟩ := F.ex
  obtain ⟨c, rfl⟩ := He.codeIn_ref hcd
  have hc : CodeAt K f c := ⟨_, _, _, _, lk, rfl⟩
  refine ⟨len, fun A outer s H args us vs Q E hgd hr e0 hb r hsp => ?_⟩
  have hlv := len _ _ _ _ hsp
  have KX : K.In s.heap := e0.mod.kin.keeps fun b o e => (e0.bs b o e).1
  have lim : s.heap.NoLimit := e0.mod.nolimit.keeps fun b o e => (e0.bs b o e).1
  have hkd : ∀ y ∈ ps.zip us, scope.names.lookup y.1 = some .local ∨ (scope.names.lookup y.1 = some .cell ∧ ((cellsFrom (s.heap.objs.size + 1) scope.names []).lookup y.1).isSome = true) := fun ⟨n, v⟩ hy => by
    rcases S.par n (List.of_mem_zip hy).1 with q | q
    · exact .inl q
    · exact .inr ⟨q, PySem.W.cellsFrom_some _ _ _ (.inl q)⟩
  refine codeAny_call_function hr.depth (KX _ _ lk) rfl S.co S.gen rfl (PySem.W.codeRec_of KX hcd) (hb _ _ _ _ ?_)
  refine wpAny_newFunctionEnv_cells S.kind hkd fun env he s1 z => ?_
  subst he
  refine ⟨lim.keeps z.toInCall.keep, codeAny_func ?_⟩
  obtain ⟨t, ht, hq⟩ := hbody c A outer s H vs Q E hc (deeper_guards hgd) (hr.deeper _) hsp
  have I : Inv (cxOf CX0 P w K mg base N qual scope f (.ref c) A outer s H E) [] (L2.start N vs) H s1 := inv_start S hr.hd e0 hlv r z
  refine wpAny_mono (ht.run [] s1 (L2.start N vs) H _ I hq) (fun fl s' hs => ?_) fun e s' hs => hs
  cases fl with
  | ret u =>
    obtain ⟨v, σ', H', J, rv, q⟩ := hs
    exact ⟨v, H', J.os, J.bare, J.base, J.hok, rv, q⟩
  | next =>
    obtain ⟨σ', H', J, q⟩ := hs
    exact ⟨V.non, H', J.os, J.bare, J.base, J.hok, rfl, q⟩
  | brk =>
    obtain ⟨_, _, _, q⟩ := hs
    exact q.elim
  | cont =>
    obtain ⟨_, _, _, q⟩ := hs
    exact q.elim
end
end K5
set_option Elab.async false
set_option linter.all false
set_option maxRecDepth 100000
set_option maxHeartbeats 16000000
namespace K5
open PySem PySem.Spec PyProof.Rows L2 Gd Rl Nu TL Ow Sz Hy LamX
open Pg (fD Arm armD armsD namesD saysD ArmOk Bt valS turnS fitsS OkP plD ixV ixD Mo MoW Stt stD LeadAt HistAt LedC ProgAt FunP Fh ButH placesS spLt spLu spLi FnP Defs Mkr)
theorem prog_ext {K : PySem.W.Frag} {C x : Addr} {H H' : Hp} {ns : List Str} {ss : List (Str × List Int)} {as : List Arm} (e : ExtN H H') : ProgAt K C H x ns ss as → ProgAt K C H' x ns ss as :=
  fun ⟨dx, ga, gb, gc, gd, gx, g1, g2, g3, g4⟩ => ⟨dx, ga, gb, gc, gd, e _ _ gx (fun _ q => nomatch q), dp_ext e _ g1, dp_ext e _ g2, dp_ext e _ g3, seqT_ext e g4⟩
theorem prog_nl {K : PySem.W.Frag} {C x : Addr} {H H' : Hp} {ns : List Str} {ss : List (Str × List Int)} {as : List Arm} (nl : Nl H H') : ProgAt K C H x ns ss as → ProgAt K C H' x ns ss as :=
  fun ⟨dx, ga, gb, gc, gd, gx, g1, g2, g3, g4⟩ => ⟨dx, ga, gb, gc, gd, nl _ _ gx (fun _ q => nomatch q), dp_nl nl _ (nol_n ns) g1, dp_nl nl _ (Pg.nol_says ss) g2, dp_nl nl _ (nol_a as) g3, seqT_nl nl g4⟩
theorem hist_ext {K : PySem.W.Frag} {CH h : Addr} {H H' : Hp} {hs : List Stt} (e : ExtN H H') : HistAt K CH H h hs → HistAt K CH H' h hs := fun ⟨d, u, h1, h2⟩ => ⟨d, u, e _ _ h1 (fun _ q => nomatch q), dp_ext e _ h2⟩
theorem hist_nl {K : PySem.W.Frag} {CH h : Addr} {H H' : Hp} {hs : List Stt} (e : Nl H H') : HistAt K CH H h hs → HistAt K CH H' h hs := fun ⟨d, u, h1, h2⟩ => ⟨d, u, e _ _ h1 (fun _ q => nomatch q), dp_nl e _ (by show Pg.nolAll _ = true; exact Pg.nol_sts hs) h2⟩
theorem lead_ext {K : PySem.W.Frag} {C CH CL l p h : Addr} {H H' : Hp} {ns : List Str} {ss : List (Str × List Int)} {as : List Arm} {hs : List Stt} (e : ExtN H H') : LeadAt K C CH CL H l p h ns ss as hs → LeadAt K C CH CL H' l p h ns ss as hs :=
  fun ⟨⟨dx, h1⟩, h2, h3⟩ => ⟨⟨dx, e _ _ h1 (fun _ q => nomatch q)⟩, prog_ext e h2, hist_ext e h3⟩
theorem lead_nl {K : PySem.W.Frag} {C CH CL l p h : Addr} {H H' : Hp} {ns : List Str} {ss : List (Str × List Int)} {as : List Arm} {hs : List Stt} (e : Nl H H') : LeadAt K C CH CL H l p h ns ss as hs → LeadAt K C CH CL H' l p h ns ss as hs :=
  fun ⟨⟨dx, h1⟩, h2, h3⟩ => ⟨⟨dx, e _ _ h1 (fun _ q => nomatch q)⟩, prog_nl e h2, hist_nl e h3⟩
/-- a list that holds this, no lists in it -/
def LstAt (K : PySem.W.Frag) (H : Hp) (l : Addr) (ds : List PyData) : Prop := ∃ ws, H l = some (.lst ws) ∧ DpAll K H ws ds
theorem LstAt.dp {K : PySem.W.Frag} {H : Hp} {l : Addr} {ds : List PyData} (h : LstAt K H l ds) : Dp K H (.ref l) (.list ds) :=
  let ⟨_, e, d⟩ := h
  .lst (SqL.of e) d
theorem LstAt.ext {K : PySem.W.Frag} {H H' : Hp} {l : Addr} {ds : List PyData} (h : LstAt K H l ds) (e : ExtN H H') : LstAt K H' l ds :=
  let ⟨ws, e1, d⟩ := h
  ⟨ws, e _ _ e1 (fun _ q => nomatch q), dp_extAll e _ d⟩
theorem nol_pls (ps : List (Str × List Int)) : Pg.nolAll (ps.map plD) = true := by
  refine Pg.nol_all fun d hd => ?_
  obtain ⟨s, _, rfl⟩ := List.mem_map.mp hd
  show Pg.nolAll [.str s.1, fD s.2] = true
  rw [Pg.nolAll, Pg.nolAll, Pg.nolAll, Pg.nol_f]
  rfl
theorem but_h {p h : Addr} {H H1 H2 : Hp} (n : ∀ o, H h = some o → ∃ ps, o = .tbl ps) (a : ButT p H H1) (b : ButH h H1 H2) : ButT p H H2 := fun c o e np t => b c o (a c o e np t) fun q => by
  rw [q] at e
  obtain ⟨ps, z⟩ := n o e
  exact t ps z
theorem mem_firstsP {ss : List (Str × List Int)} {as : List Arm} {i : Nat} {x : V} (e : ((placesS ss as).map V.str)[i]? = some x) : ∃ z, x = .str z ∧ z ∈ placesS ss as := by
  obtain ⟨c, ec, rfl⟩ := Pg.strs_at e
  exact ⟨c, rfl, List.mem_of_getElem? ec⟩
theorem place_name {m : Nat} {ss : List (Str × List Int)} {as : List Arm} (oS : Pg.OkS m ss) (oA : Pg.OkA m ss as) {z : Str} (h : z ∈ placesS ss as) : Pg.nameS z = true := by
  have h2 := firsts_mem z h
  unfold Pg.standS at h2
  rcases List.mem_append.mp h2 with h3 | h3
  · obtain ⟨s, hs, rfl⟩ := List.mem_map.mp h3
    exact (Pg.say_parts (oS.sy s hs)).1
  · obtain ⟨l, hl, hz⟩ := List.mem_flatten.mp h3
    obtain ⟨a, ha, rfl⟩ := List.mem_map.mp hl
    simp only [List.mem_cons, List.not_mem_nil, or_false] at hz
    rcases hz with rfl | rfl
    · exact (oA.arm a ha).s
    · exact (oA.arm a ha).t
theorem places_some {m : Nat} {ss : List (Str × List Int)} {as : List Arm} (oA : Pg.OkA m ss as) : 0 < (placesS ss as).length := by
  have h1 := oA.one
  obtain ⟨a, ha⟩ : ∃ a, as[0]? = some a := ⟨_, List.getElem?_eq_getElem (by omega)⟩
  have hm := List.mem_of_getElem? ha
  have : a.src ∈ placesS ss as := by
    refine Pg.mem_firsts _ _ rfl _ ?_
    unfold Pg.standS
    exact List.mem_append.mpr (.inr (List.mem_flatten.mpr ⟨[a.src, a.tgt], List.mem_map.mpr ⟨a, hm, rfl⟩, by simp⟩))
  exact List.length_pos_of_mem this
theorem pfL_no {a b : V} {m : Str} (h1 : ¬ (m = "_history")) (h2 : ¬ (m = "_program")) : (Pg.pfL a b).lookup m = none := by
  unfold Pg.pfL
  rw [lookup_putF, if_neg h1, lookup_putF, if_neg h2]
  rfl
end K5
set_option Elab.async false
set_option linter.all false
set_option maxRecDepth 100000
set_option maxHeartbeats 8000000
namespace L2
open PySem PySem.Spec PyProof.Rows
def rEqE (K : PySem.W.Frag) : R2 := fun x y H Q => ∃ a b xs, x = .ref a ∧ y = .ref b ∧ SqL K H a xs ∧ SqL K H b [] ∧ Q (.bl xs.isEmpty) H
/-- two lists of two texts, the same -/
def rNeSame (K : PySem.W.Frag) : R2 := fun x y H Q => ∃ a b s t, x = .ref a ∧ y = .ref b ∧ SqL K H a [.str s, .str t] ∧ SqL K H b [.str s, .str t] ∧ Q (.bl false) H
section
variable {X : Cx}
theorem op_eqE (hu : X.A.units + 64 < cLine) : OpR X (compareOp .Eq) (rEqE X.K) := by
  intro pins s σ H x y v u Q I rx ry h
  obtain ⟨a, b, xs, rfl, rfl, ha, hb, q⟩ := h
  cases xs with
  | nil =>
    exact op_eqD hu pins s σ H _ _ _ _ Q I rx ry ⟨.list [], .list [], .lst ha .nil, .lst hb .nil, by decide +kernel, by decide +kernel, q⟩
  | cons z zs =>
    cases rx
    cases ry
    obtain ⟨ia, ra, ⟨oa, na, ha1, ha2, _, ha3⟩, _⟩ := I.list ha
    obtain ⟨ib, rb, ⟨ob, nb, hb1, hb2, _, hb3⟩, _⟩ := I.list hb
    cases rb
    cases ra with
    | cons r1 r2 =>
    exact EqBoolInt.of_rc (SeqAt.RcAt.lists_lengths ⟨oa, ha1, ha2, na, ha3⟩ ⟨ob, hb1, hb2, nb, hb3⟩ (by simp) (by omega)) ⟨.bl false, H, I, rfl, q⟩
theorem op_neSame (hu : X.A.units + 64 < cLine) : OpR X (compareOp .NotEq) (rNeSame X.K) := by
  intro pins s σ H x y v u Q I rx ry h
  obtain ⟨a, b, z, t, rfl, rfl, ha, hb, q⟩ := h
  cases rx
  cases ry
  obtain ⟨ia, ra, ⟨oa, na, ha1, ha2, _, ha3⟩, _⟩ := I.list ha
  obtain ⟨ib, rb, ⟨ob, nb, hb1, hb2, _, hb3⟩, _⟩ := I.list hb
  cases ra with
  | cons r1 ra =>
  cases ra with
  | cons r2 ra =>
  cases ra
  cases rb with
  | cons r3 rb =>
  cases rb with
  | cons r4 rb =>
  cases rb
  obtain ⟨t1, rfl⟩ := r1
  obtain ⟨t2, rfl⟩ := r2
  obtain ⟨t3, rfl⟩ := r3
  obtain ⟨t4, rfl⟩ := r4
  refine EqBoolInt.of_rcne (k := false) ?_ ⟨.bl false, H, I, rfl, q⟩
  have h := SeqAt.RcNeAt.lists (A := X.A) (s := s) (e := fun _ => true) ⟨oa, ha1, ha2, na, ha3⟩ ⟨ob, hb1, hb2, nb, hb3⟩ rfl (by omega) fun j h1 h2 => by
    match j, h1 with
    | 0, _ =>
      have := SeqAt.EqAt.str_str (A := X.A.in1) (s := s) z t1 z t3
      rw [show (z == z) = true from beq_self_eq_true z] at this
      exact this
    | 1, _ =>
      have := SeqAt.EqAt.str_str (A := X.A.in1) (s := s) t t2 t t4
      rw [show (t == t) = true from beq_self_eq_true t] at this
      exact this
  exact h
end
end L2
namespace K5
open PySem PySem.Spec PyProof.Rows L2 Gd Rl Nu TL Ow Sz Hy LamX
open Pg (fD top okD okAll Bt FnP Mo Arm armD namesD saysD armsD placesS spLl OkP plB ixB intB intsB ProgAt rp_sm Stt LeadAt HistAt Fh ButH turnS fitsS spLiX spLtX spLu)
/-! ### values that stand while the pail goes on -/
theorem same_to {p : Addr} {H : Hp} : Same (delH H p) H := fun a o e => by
  by_cases h : a = p
  · rw [h, delH_same] at e
    cases e
  · rw [delH_ne h] at e
    exact e
theorem ext_dels {p : Addr} {H H' : Hp} (b : ExtN H H') : ExtN (delH H p) (delH H' p) := fun a o e t => by
  by_cases h : a = p
  · rw [h, delH_same] at e
    cases e
  · rw [delH_ne h] at e ⊢
    exact b a o e t
theorem nl_dels {p : Addr} {H : Hp} (hp : Pail H p) : Nl H (delH H p) := fun a o e t => by
  have h : a ≠ p := fun q => by
    obtain ⟨o', st, c, h1, _⟩ := hp
    rw [q, h1] at e
    cases e
    exact t _ rfl
  rw [delH_ne h]
  exact e
/-- what an answer holds -/
def GotL (H : Hp) (l : Addr) : Option (Str × PyData) → Prop
  | none => ∃ y : V, H l = some (.lst [.str "back", y])
  | some e => H l = some (.lst [.str e.1, .str e.2.shown])
theorem GotL.ext {H H' : Hp} {l : Addr} : ∀ {o : Option (Str × PyData)}, GotL H l o → ExtN H H' → GotL H' l o
  | none, ⟨y, b⟩, e => ⟨y, e _ _ b fun _ q => nomatch q⟩
  | some _, h, e => e _ _ (show H l = _ from h) fun _ q => nomatch q
theorem DueAt.ext {H H' : Hp} {l : Addr} : ∀ {o : Option (Str × PyData)}, DueAt H l o → ExtN H H' → DueAt H' l o
  | none, h, e => e _ _ (show H l = _ from h) fun _ q => nomatch q
  | some _, h, e => e _ _ (show H l = _ from h) fun _ q => nomatch q
theorem made_same {H : Hp} {C l dx : Addr} (nl : H l = none) (nd : H dx = none) : Same H (upd (upd H dx (.own l)) l (.ins C dx [])) := fun q o e => by
  rw [upd_ne (ne_of_none e nl), upd_ne (ne_of_none e nd)]
  exact e
section
variable {P : Program} {w : World} {K : PySem.W.Frag} {C CH CL c0 c1 c2 c3 c4 c5 : Addr}
/-- an error that goes out is told -/
theorem told_out {H1 : Hp} {nm : Str} {CE : Addr} {v : V} {d : PyData} {Q : VK} (hin : (CE, nm, ("given" : Str)) ∈ (known c0 c1 c2 c3 c4 c5).1) (hv : Rp K H1 v d) (od : OkV d) (k : ∀ l H2, Same H1 H2 → H2 l = some (.lst [.str nm, .str d.shown]) → Q (.ref l) H2) :
    Pg.Out (fun c dd H' => Told K (known c0 c1 c2 c3 c4 c5) c dd H' Q) H1 CE v := fun H2 dd s2 nd => by
  have s3 := s2.trans (same_new (o := .xd [("given", v)]) nd)
  exact .inl ⟨_, dd, v, d, hin, rfl, rfl, upd_same, ⟨rp_sm s3 hv, od.sh, Nat.le_trans od.dp (by decide), sz1000 od.len⟩, fun l H3 n3 => k l H3 (s3.trans n3.2.2) n3.2.1⟩
theorem tt_lead {tl : (XK → Hp → VK → Prop)} {H : Hp} {Q : VK} {p : Addr} {v1 v2 : V} {ns : List Str} {ss : List (Str × List Int)} {as : List Arm} {d1 d2 : PyData}
    (htl : ∀ E H' Q', (∀ l dx, H' l = none → H' dx = none → dx ≠ l → spLiX K C CH CL c3 c1 c2 [.ref l, .ref p, v1, v2] (upd (upd H' dx (.own l)) l (.ins CL dx [])) (fun v H2 => v = .non ∧ Q' (.ref l) H2) E) → tl E H' Q') (hp : ProgAt K C H p ns ss as) (ok : OkP ns ss as) (h1 : Rp K H v1 d1) (o1 : OkV d1) (h2 : Rp K H v2 d2) (o2 : OkV d2)
    (k : ∀ l H2, Same H H2 → GotL H2 l (dueS ns.length (placesS ss as) d1 d2) → Q (.ref l) H2) : TTans K (known c0 c1 c2 c3 c4 c5) tl H Q := by
  refine htl _ _ _ fun l dx nl ndl nel => ⟨H, l, dx, _, v1, v2, rfl, made_same nl ndl, nl, upd_same, .inr ⟨p, ns, ss, as, d1, d2, rfl, hp, ok, h1, h2, o2.ok, fun b1 => ?_, fun b1 b2 => ?_, fun z xs e1 e2 hz lx h H' s nh gL => ⟨rfl, ?_⟩⟩⟩
  · refine told_out (nm := "InvalidPlace") (by simp [known]) h1 o1 fun l H2 s hl => k l H2 s ?_
    unfold dueS
    rw [b1]
    exact hl
  · refine told_out (nm := "InvalidPoint") (by simp [known]) h2 o2 fun l H2 s hl => k l H2 s ?_
    unfold dueS
    rw [b1, b2]
    exact hl
  · refine ⟨_, rfl, (show 2 ≤ 1000 by decide), fun la H2 n2 => k la H2 (s.trans n2.2.2) ?_⟩
    subst e1 e2
    have b1 : plB (placesS ss as) (.str z) = true := List.contains_iff_mem.mpr hz
    have b2 : intsB ns.length (fD xs) = true := by
      show (decide ((xs.map PyData.int).length = ns.length) && (xs.map PyData.int).all intB) = true
      rw [List.length_map, decide_eq_true lx, List.all_map, Bool.true_and]
      exact List.all_eq_true.mpr fun _ _ => rfl
    unfold dueS
    rw [b1, b2]
    exact ⟨_, n2.2.1⟩
theorem tt_leadN {tl : (XK → Hp → VK → Prop)} {H : Hp} {Q : VK} {v0 v1 v2 : V} {d0 : PyData}
    (htl : ∀ E H' Q', (∀ l dx, H' l = none → H' dx = none → dx ≠ l → spLiX K C CH CL c3 c1 c2 [.ref l, v0, v1, v2] (upd (upd H' dx (.own l)) l (.ins CL dx [])) (fun v H2 => v = .non ∧ Q' (.ref l) H2) E) → tl E H' Q') (h0 : Rp K H v0 d0) (o0 : OkV d0)
    (k : ∀ l H2, Same H H2 → H2 l = some (.lst [.str "NotProgram", .str d0.shown]) → Q (.ref l) H2) : TTans K (known c0 c1 c2 c3 c4 c5) tl H Q :=
  htl _ _ _ fun l dx nl ndl nel => ⟨H, l, dx, v0, v1, v2, rfl, made_same nl ndl, nl, upd_same, .inl ⟨d0, h0, told_out (nm := "NotProgram") (by simp [known]) h0 o0 fun l H2 s hl => k l H2 s hl⟩⟩
/-- what is no index -/
theorem tt_odd {tl : (XK → Hp → VK → Prop)} {H : Hp} {Q : VK} {l p h : Addr} {u : V} {ns : List Str} {ss : List (Str × List Int)} {as : List Arm} {hs : List Stt} {s : Stt} {d : PyData}
    (htl : ∀ E Q', spLtX K C CH CL c4 c0 [.ref l, u] H Q' E → tl E H Q') (g : LeadAt K C CH CL H l p h ns ss as hs) (ok : OkP ns ss as) (h1 : Rp K H u d) (o1 : OkV d) (el : hs.getLast? = some s) (lx : s.2.2.length = ns.length) (bx : Bt s.2.2) (l9 : hs.length ≤ 900) (hb : ixB as.length d = false)
    (k : ∀ l H2, Same H H2 → H2 l = some (.lst [.str "InvalidIndex", .str d.shown]) → Q (.ref l) H2) : TTans K (known c0 c1 c2 c3 c4 c5) tl H Q := by
  refine htl _ _ ⟨l, p, h, u, d, ns, ss, as, hs, s, rfl, g, ok, h1, o1.ok, el, lx, bx, l9, fun _ => ?_, fun i a e ea => ?_⟩
  · exact told_out (nm := "InvalidIndex") (by simp [known]) h1 o1 fun l H2 s hl => k l H2 s hl
  · rw [e] at hb
    have hi := (List.getElem?_eq_some_iff.mp ea).1
    have : ixB as.length (.int (i : Int)) = true := by
      show (decide ((0 : Int) ≤ (i : Nat)) && decide (((i : Nat) : Int) < (as.length : Int))) = true
      rw [decide_eq_true (by omega), decide_eq_true (by omega)]
      rfl
    rw [this] at hb
    cases hb
/-- an index: taken, or stuck -/
theorem tt_at {tl : (XK → Hp → VK → Prop)} {H : Hp} {Q : VK} {l p h : Addr} {i : Nat} {a : Arm} {ns : List Str} {ss : List (Str × List Int)} {as : List Arm} {hs : List Stt} {s : Stt}
    (htl : ∀ E Q', spLtX K C CH CL c4 c0 [.ref l, .int i] H Q' E → tl E H Q') (g : LeadAt K C CH CL H l p h ns ss as hs) (ok : OkP ns ss as) (ea : as[i]? = some a) (el : hs.getLast? = some s) (lx : s.2.2.length = ns.length) (bx : Bt s.2.2) (l9 : hs.length ≤ 900)
    (kY : fitsS a s.2.1 s.2.2 = true → ∀ la v H1 H2, Fh CH H H1 → ButH h H H1 → LeadAt K C CH CL H1 l p h ns ss as (hs ++ [(some i, a.tgt, turnS a s.2.2)]) → Same H1 H2 → H2 la = some (.lst [.str "back", v]) → Q (.ref la) H2)
    (kN : fitsS a s.2.1 s.2.2 = false → ∀ la H2, Same H H2 → H2 la = some (.lst [.str "Stuck", .str (numS (i : Int))]) → Q (.ref la) H2) : TTans K (known c0 c1 c2 c3 c4 c5) tl H Q := by
  have hi := (List.getElem?_eq_some_iff.mp ea).1
  have a5 := ok.a.five
  have sI := sh_int (i := (i : Int)) (by omega)
  refine htl _ _ ⟨l, p, h, .int i, .int i, ns, ss, as, hs, s, rfl, g, ok, .inl (.int _), rfl, el, lx, bx, l9, fun hb => ?_, fun j b e eb => ?_⟩
  · have : ixB as.length (.int (i : Int)) = true := by
      show (decide ((0 : Int) ≤ (i : Nat)) && decide (((i : Nat) : Int) < (as.length : Int))) = true
      rw [decide_eq_true (by omega), decide_eq_true (by omega)]
      rfl
    rw [this] at hb
    cases hb
  · have ej : i = j := by
      have := PyData.int.inj e
      omega
    subst ej
    rw [ea] at eb
    cases eb
    refine ⟨fun hf v H1 f b g' hv => ⟨v, rfl, (show 2 ≤ 1000 by decide), fun la H2 n2 => kY hf la v H1 H2 f b g' n2.2.2 n2.2.1⟩, fun hf H1 dd s1 nd => ?_⟩
    have s3 := s1.trans (same_new (o := .xd [("index", .int (i : Nat))]) nd)
    refine .inl ⟨(c4, "Stuck", "index"), dd, _, .int (i : Int), (by simp [known]), rfl, rfl, upd_same, ⟨.inl (.int _), sI.sh, Nat.le_trans sI.dp (by decide), sz1000 (Nat.le_trans sI.len (by decide))⟩, fun la H3 n3 => kN hf la H3 (s3.trans n3.2.2) ?_⟩
    rw [n3.2.1]
    simp only [PyData.shown]
    rfl
/-- nothing to take back -/
theorem tt_none {tl : (XK → Hp → VK → Prop)} {H : Hp} {Q : VK} {l p h : Addr} {ns : List Str} {ss : List (Str × List Int)} {as : List Arm} {hs : List Stt}
    (htl : ∀ E Q', spLu K C CH CL c5 [.ref l] H Q' E → tl E H Q') (g : LeadAt K C CH CL H l p h ns ss as hs) (h1 : hs.length = 1)
    (k : ∀ la H2, Same H H2 → H2 la = some (.lst [.str "NothingToUndo", .str ""]) → Q (.ref la) H2) : TTans K (known c0 c1 c2 c3 c4 c5) tl H Q :=
  htl _ _ ⟨l, p, h, ns, ss, as, hs, rfl, g, by omega, fun _ => .inr ⟨(c5, "NothingToUndo"), by simp [known], rfl, rfl, fun la H2 n2 => k la H2 n2.2.2 n2.2.1⟩, fun q => absurd h1 q⟩
end
end K5
set_option Elab.async false
set_option linter.all false
set_option maxRecDepth 100000
set_option exponentiation.threshold 600
set_option maxHeartbeats 16000000
namespace K5
open PySem PySem.Spec PyProof.Rows L2 Gd Rl Nu TL Ow Sz Hy LamX
open Pg (fD Arm armD armsD namesD saysD ArmOk Bt valS turnS fitsS OkP plD agS ixV ixD Mo MoW Stt stD takenD readyS readyD LeadAt HistAt HisC LedC PrD ProgAt FunP Fh ButH placesS spLiX spLtX spLu FnP Defs Mkr ixB intB intsB plB rp_sm nolD nolAll dp_ints okD)
abbrev sRight : Stmt := Pg.top 81
abbrev lamQ : Str := (envOfC "_law_right" (defScope sRight) 0 0 .none).qual ++ "<lambda>"
structure Bl2 (mg : Str → Option Value) : Prop where
  repr : mg "repr" = none
  list : mg "list" = none
theorem cut {H : Hp} {R : Hp → Prop} {G : Prop} (h1 : (∀ H', Same H H' → R H') → G) (h2 : ∀ H', Same H H' → R H') : G := h1 h2
theorem eqv_same {d : PyData} (h : d.plain = true) : (!PyData.eqv d d) = false := by
  rw [SeqAt.eqv_refl_plain d h]
  rfl
/-- a list of two texts -/
def twoD (a b : Str) : PyData := .list [.str a, .str b]
theorem two_pl (a b : Str) : (twoD a b).plain = true := by
  show PyData.plain (.list [.str a, .str b]) = true
  simp [PyData.plain, PyData.plainAll]
theorem two_dp (a b : Str) : (twoD a b).depth ≤ 64 := by
  show (PyData.list [.str a, .str b]).depth ≤ 64
  simp [PyData.depth, PyData.depthAll]
theorem two_at {K : PySem.W.Frag} {H : Hp} {l : Addr} {a b : Str} (h : H l = some (.lst [.str a, .str b])) : Dp K H (.ref l) (twoD a b) := .lst (SqL.of h) (.cons (.str _) (.cons (.str _) .nil))
theorem inV_ints (n : Nat) : ∀ W : List Nat, inV (.int (n : Int)) (W.map fun k : Nat => V.int (k : Int)) = W.contains n
  | [] => rfl
  | m :: W => by
    have ih := inV_ints n W
    unfold inV at ih ⊢
    rw [List.map_cons, List.any_cons, ih, List.contains_cons]
    congr 1
    show (decide ((m : Int) = (n : Int))) = (n == m)
    rw [Bool.eq_iff_iff]
    simp only [beq_iff_eq, decide_eq_true_eq]
    omega
theorem flat_ints (W : List Nat) : (W.map fun k : Nat => V.int (k : Int)).all flatV = true := by
  rw [List.all_map]
  exact List.all_eq_true.mpr fun _ _ => rfl
theorem ready_has {as : List Arm} {z : Str} {xs : List Int} {n : Nat} {a : Arm} (ea : as[n]? = some a) : (readyS as z xs as.length).contains n = fitsS a z xs := by
  have hn := (List.getElem?_eq_some_iff.mp ea).1
  rw [Bool.eq_iff_iff, List.contains_iff_mem]
  unfold Pg.readyS
  rw [List.mem_filter, ea]
  constructor
  · intro h
    exact h.2
  · intro h
    exact ⟨List.mem_range.mpr hn, h⟩
theorem cut_drop1 {xs : List V} (h : 1 ≤ xs.length) : cutV xs (some 1) none = xs.drop 1 := Pg.cut_from1
theorem dp_app {K : PySem.W.Frag} {H : Hp} : ∀ {xs ys : List V} {ds es : List PyData}, DpAll K H xs ds → DpAll K H ys es → DpAll K H (xs ++ ys) (ds ++ es)
  | _, _, _, _, .nil, q => q
  | _, _, _, _, .cons a b, q => .cons a (dp_app b q)
theorem catA_dp {K : PySem.W.Frag} {H : Hp} {x y : V} {ds es : List PyData} {Q : VK} (hx : Dp K H x (.tuple ds)) (hy : Dp K H y (.tuple es)) (hl : ds.length + es.length ≤ 1000) (h : ∀ r H', Same H H' → Dp K H' r (.tuple (ds ++ es)) → Q r H') : rCatA K x y H Q := by
  obtain ⟨a, xs, rfl, ha, hxs⟩ := Pg.rp_tup (.inl hx)
  obtain ⟨b, ys, rfl, hb, hys⟩ := Pg.rp_tup (.inl hy)
  have l1 := Pg.dp_len' hxs
  have l2 := Pg.dp_len' hys
  refine ⟨a, b, xs, ys, rfl, rfl, ha, hb, sz1000 (by omega), fun e0 => ?_, fun n0 e0 => ?_, fun n0 n1 p np => ?_⟩
  · subst e0
    cases hxs
    exact h _ H (Same.refl _) hy
  · subst e0
    cases hys
    exact h _ H (Same.refl _) (by rw [List.append_nil]; exact hx)
  · have s := same_new (o := .tup (xs ++ ys)) np
    exact h _ _ s (.tup (SqT.of upd_same) (dp_app (dp_sameAll s _ hxs) (dp_sameAll s _ hys)))
theorem rep_dp {K : PySem.W.Frag} {H : Hp} {v : V} {d : PyData} (h : Dp K H v d) : ∀ k, DpAll K H (List.replicate k [v]).flatten (List.replicate k d)
  | 0 => .nil
  | k + 1 => by
    rw [List.replicate_succ, List.flatten_cons, List.replicate_succ]
    exact .cons h (rep_dp h k)
theorem nol_rep {d : PyData} (h : nolD d = true) : ∀ k, nolAll (List.replicate k d) = true
  | 0 => rfl
  | k + 1 => by
    rw [List.replicate_succ]
    simp only [Pg.nolAll, h, nol_rep h k, Bool.and_self]
theorem ints_all {K : PySem.W.Frag} {H : Hp} : ∀ xs : List Int, DpAll K H (xs.map V.int) (xs.map PyData.int)
  | [] => .nil
  | x :: xs => .cons (.int x) (ints_all xs)
theorem mk_pt {K : PySem.W.Frag} {p : Addr} {H : Hp} {v : V} {g : List Int} (hp : Pail H p) (h : Dp K H v (fD g)) : Rp K (delH H p) v (fD g) := .inl (dp_nl (nl_dels hp) _ (Pg.nol_f g) h)
/-- what is shown of the lead -/
def bareD (as : List Arm) (s : Stt) : List PyData := [.str s.2.1, fD s.2.2, takenD [s], readyD as s.2.1 s.2.2, ixD (agS ([s].map Prod.snd))]
theorem sh_bare {as : List Arm} {s : Stt} (h5 : as.length ≤ 5) (l3 : s.2.2.length ≤ 3) (hf : Far s.2.2) (hn : Pg.nameS s.2.1 = true) : Sh (.list (bareD as s)) 10000 4 := by
  have q2 : Sh (fD s.2.2) 1000 3 := by
    have q := sh_tup (sh_far hf)
    rw [List.length_map] at q
    exact q.mono (by omega) (by decide)
  have q3 : Sh (takenD [s]) 1000 3 := by
    show Sh (.tuple []) 1000 3
    refine (sh_tup (ds := []) (n := 8) (k := 1) fun d hd => ?_).mono (by decide) (by decide)
    cases hd
  have q4 : Sh (readyD as s.2.1 s.2.2) 1000 3 := by
    have lr := Pg.ready_le as s.2.1 s.2.2 as.length
    refine (sh_tup (n := 8) (k := 1) fun d hd => ?_).mono (by rw [List.length_map]; omega) (by decide)
    obtain ⟨i, hi, rfl⟩ := List.mem_map.mp hd
    have := List.mem_range.mp (List.mem_filter.mp hi).1
    exact sh_int (by omega)
  refine (sh_lst (ds := bareD as s) (n := 1000) (k := 3) fun d hd => ?_).mono (show 5 * (1000 + 2) + 2 ≤ 10000 by decide) (Nat.le_refl _)
  simp only [bareD, List.mem_cons, List.not_mem_nil, or_false] at hd
  rcases hd with rfl | rfl | rfl | rfl | rfl
  · exact (Pg.sh_name hn).mono (by decide) (by decide)
  · exact q2
  · exact q3
  · exact q4
  · exact ⟨by show (PyData.none).shown.length ≤ 1000; decide +kernel, by show PyData.showable .none = true; simp only [PyData.showable], by show PyData.depth .none ≤ 3; simp only [PyData.depth]; decide⟩
/-- all that a turn keeps: the lead, the parts, the places -/
structure Nv (K : PySem.W.Frag) (C CH CL : Addr) (H : Hp) (l x r' h spl : Addr) (u' v' z' : V) (ns : List Str) (ss : List (Str × List Int)) (as : List Arm) (hs : List Stt) : Prop where
  g : LeadAt K C CH CL H l x h ns ss as hs
  r : H r' = some (.lst [u', v', z'])
  u : Dp K H u' (namesD ns)
  v : Dp K H v' (saysD ss)
  z : Dp K H z' (armsD as)
  sp : H spl = some (.lst ((placesS ss as).map V.str))
section
variable {K : PySem.W.Frag} {C CH CL : Addr} {H H' : Hp} {l x r h spl p : Addr} {u v z : V} {ns : List Str} {ss : List (Str × List Int)} {as : List Arm} {hs ht : List Stt}
theorem Nv.ext (n : Nv K C CH CL H l x r h spl u v z ns ss as hs) (e : ExtN H H') : Nv K C CH CL H' l x r h spl u v z ns ss as hs :=
  ⟨lead_ext e n.g, e _ _ n.r (fun _ q => nomatch q), dp_ext e _ n.u, dp_ext e _ n.v, dp_ext e _ n.z, e _ _ n.sp (fun _ q => nomatch q)⟩
theorem Nv.same (n : Nv K C CH CL H l x r h spl u v z ns ss as hs) (e : Same H H') : Nv K C CH CL H' l x r h spl u v z ns ss as hs := n.ext (same_ext e)
theorem Nv.but (n : Nv K C CH CL H l x r h spl u v z ns ss as hs) (b : But p H H') (hp : Pail H p) (rp : r ≠ p) (sp : spl ≠ p) : Nv K C CH CL H' l x r h spl u v z ns ss as hs := by
  have nl := b.nl hp
  exact ⟨lead_nl nl n.g, b _ _ n.r rp, dp_nl nl _ (nol_n ns) n.u, dp_nl nl _ (Pg.nol_says ss) n.v, dp_nl nl _ (nol_a as) n.z, b _ _ n.sp sp⟩
theorem Nv.step (n : Nv K C CH CL H l x r h spl u v z ns ss as hs) (f : Fh CH H H') (b : ButH h H H') (g : LeadAt K C CH CL H' l x h ns ss as ht) : Nv K C CH CL H' l x r h spl u v z ns ss as ht := by
  obtain ⟨_, _, d, uu, hh, _⟩ := n.g
  have nh : ∀ {b : Addr} {ys : List V}, H b = some (.lst ys) → b ≠ h := fun e q => by rw [q, hh] at e; cases e
  exact ⟨g, b _ _ n.r (nh n.r), Pg.dp_fh f _ (nol_n ns) n.u, Pg.dp_fh f _ (Pg.nol_says ss) n.v, Pg.dp_fh f _ (nol_a as) n.z, b _ _ n.sp (nh n.sp)⟩
theorem Nv.pail (n : Nv K C CH CL H l x r h spl u v z ns ss as hs) (hp : Pail H p) (b : ButH h H H') : Pail H' p := by
  obtain ⟨_, _, d, uu, hh, _⟩ := n.g
  obtain ⟨o, st, c, h1, h2⟩ := hp
  exact ⟨o, st, c, b _ _ h1 (fun q => by rw [q, hh] at h1; cases h1), h2⟩
theorem Nv.tabs (n : Nv K C CH CL H l x r h spl u v z ns ss as hs) {T : List (Addr × Str)} (t : Tabs T H) (b : ButH h H H') : Tabs T H' := fun q hq => by
  obtain ⟨_, _, d, uu, hh, _⟩ := n.g
  obtain ⟨ps, h1, h2, h3⟩ := t q hq
  refine ⟨ps, b _ _ h1 (fun q => by rw [q, hh] at h1; cases h1), h2, fun pos cv hc => ?_⟩
  obtain ⟨c, e1, e2⟩ := h3 pos cv hc
  exact ⟨c, e1, b _ _ e2 (fun q => by rw [q, hh] at e2; cases e2)⟩
end
/-- where the class of leads stands -/
structure LdB (K : PySem.W.Frag) (mg : Str → Option Value) (C CH CL : Addr) (fHi fHp fHc fHb : Addr) (dHi dHp dHc dHb : FuncData) (qa ga qb gb qt gt qr gr qg gg : Addr) (da db dt dr dg : FuncData) : Prop where
  lc : LedC K mg CL
  hc : HisC K CH fHi fHp fHc fHb dHi dHp dHc dHb
  pa : PrD K CL "place" "Lead.place" Pg.sLpl qa ga da
  pb : PrD K CL "point" "Lead.point" Pg.sLpo qb gb db
  pt : PrD K CL "taken" "Lead.taken" Pg.sLta qt gt dt
  pr : PrD K CL "ready" "Lead.ready" Pg.sLre qr gr dr
  pg : PrD K CL "again" "Lead.again" Pg.sLag qg gg dg
/-- where the law's greater defs and the lead's methods stand -/
structure Df (K : PySem.W.Frag) (mg : Str → Option Value) (CL fS fB fQ fP fW fO fH fD fI fT fU : Addr) (dS dB dQ dP dW dO dH dD dI dT dU : FuncData) : Prop where
  s : FnP K "_law_small" sSmall fS dS
  b : FnP K "_law_built" sBuilt fB dB
  q : FnP K "_law_spot" sSpot fQ dQ
  p : FnP K "_law_spots" Pg.sSp fP dP
  w : FnP K "_law_answer" sAns fW dW
  o : FnP K "_law_sort" sSort fO dO
  h : FnP K "_law_thing" sThing fH dH
  d : FnP K "_law_due" sDue fD dD
  gs : mg "_law_small" = some (.ref fS)
  gb : mg "_law_built" = some (.ref fB)
  gq : mg "_law_spot" = some (.ref fQ)
  gp : mg "_law_spots" = some (.ref fP)
  gw : mg "_law_answer" = some (.ref fW)
  go : mg "_law_sort" = some (.ref fO)
  gh : mg "_law_thing" = some (.ref fH)
  gd : mg "_law_due" = some (.ref fD)
  gL : mg "Lead" = some (.ref CL)
  mi : Mk K CL fI
  fi : FunP K "__init__" "Lead.__init__" Pg.sLi fI dI
  mt : Meth K CL "take" fT
  ft : FunP K "take" "Lead.take" Pg.sLt fT dT
  mu : Meth K CL "undo" fU
  fu : FunP K "undo" "Lead.undo" Pg.sLu fU dU
/-- where the draws stand -/
structure Dq (K : PySem.W.Frag) (mg : Str → Option Value) (cC cA cT : Addr) (eC eA eT : FuncData) : Prop where
  c : FnP K "_law_cast" sCast cC eC
  a : FnP K "_law_any_of" sAny cA eA
  t : FnP K "_law_tags" sTags cT eT
  gc : mg "_law_cast" = some (.ref cC)
  ga : mg "_law_any_of" = some (.ref cA)
  gt : mg "_law_tags" = some (.ref cT)
abbrev nRight : List Str := ["_law_pail", "_law_parts", "_law_mine", "_law_size", "_law_spots_here", "_law_hand", "_law_before", "_law_turn_here", "_law_good", "_law_thing_here", "_law_here", "_law_spot_here", "_law_due_here", "_law_got", "_law_odd", "_law_at", "_law_free"]
theorem scRight : FnScope nRight ["_law_pail"] (defScope sRight) := ⟨rfl, rfl, rfl, by decide +kernel, rfl, by decide +kernel, by decide +kernel⟩
def spRight (T : List (Addr × Str)) : Sp := fun vs H Q _ => ∃ p, vs = [.ref p] ∧ Pail H p ∧ Tabs T H ∧ ∀ H', ButT p H H' → Tabs T H' → Q (.bl true) H'
section
variable {P : Program} {w : World} {K : PySem.W.Frag} {mg : Str → Option Value} {base : Heap} {f C CH CL : Addr} {fd : FuncData}
variable {fI fN fF fS fU fCN fCS fCB fY fB fP fX fW fA fO : Addr} {dI dN dF dS dU dCN dCS dCB dY dB dP dX dW dA dO : FuncData}
variable {fHi fHp fHc fHb : Addr} {dHi dHp dHc dHb : FuncData} {qa ga qb gb qt gt qr gr qg gg : Addr} {da db dt dr dg : FuncData}
theorem ok_right {cC cA cT fIni fStr mcp fRd fLw fLa fLl fLs kU kS kL kK kT kM kW qS qB qQ qP qW qO qH qD qI qT qU fFi p3 g3 b0 b1 b2 c0 c1 c2 c3 c4 c5 cR tR : Addr} {mc : Value} {eC eA eT dIni dStr dRd dLw dLa dLl dLs jU jS jL jK jT jM jW eS eB eQ eP eW eO eH eD eI eT2 eU dFi d3 : FuncData} (F : FnP K "_law_right" sRight f fd) (T : Bl mg) (R : RangeB mg) (U : Bl2 mg) (M0 : Mo mg) (G : Dq K mg cC cA cT eC eA eT)
    (G2 : Ds K mg cC kU kS kL eC jU jS jL) (G3 : Dp2 K mg cA kK kT eA jK jT) (FM : FnP K "_law_arm" sArm kM jM) (gM : mg "_law_arm" = some (.ref kM)) (FW : FnP K "_law_is_whole" sWhole kW jW) (gW : mg "_law_is_whole" = some (.ref kW))
    (X : Pg.Txt K mg C) (D : Defs K mg fI fN fF fS fU fCN fCS fCB fY fB fP fX fW fA fO dI dN dF dS dU dCN dCS dCB dY dB dP dX dW dA dO) (M : Mkr K C fIni fStr dIni dStr) (Z : Rdr K C mcp fRd mc dRd) (L : Tx K mg fLw fLa fLl fLs dLw dLa dLl dLs) (B : Df K mg CL qS qB qQ qP qW qO qH qD qI qT qU eS eB eQ eP eW eO eH eD eI eT2 eU) (A0 : LdB K mg C CH CL fHi fHp fHc fHb dHi dHp dHc dHb qa ga qb gb qt gt qr gr qg gg da db dt dr dg)
    (FF : FnP K "fits" Pg.sFi fFi dFi) (gF : mg "fits" = some (.ref fFi)) (GF : FnOk P w K mg base CX0 3 fFi dFi ["branch", "place", "point"] (Pg.spFi K)) (P3 : PropOf K C "branches" p3 g3) (F3 : FunP K "branches" "Program.branches" Pg.sGb g3 d3)
    (GI : FnOk P w K mg base (L2.CX P w) 5 qI eI ["self", "program", "place", "point"] (spLiX K C CH CL c3 c1 c2)) (GT : FnOk P w K mg base (L2.CX P w) 5 qT eT2 ["self", "index"] (spLtX K C CH CL c4 c0)) (GU : FnOk P w K mg base (L2.CX P w) 3 qU eU ["self"] (spLu K C CH CL c5))
    (BB : Bas K mg b0 b1 b2) (ER : Errs K mg b0 b1 b2 c0 c1 c2 c3 c4 c5) (US : BlS mg) (TB : TabB base mg cR tR) (HC : ∀ c, CodeAt K f c → c = cR) : FnG P w K mg base 11 f fd ["_law_pail"] (spRight [(tR, lamQ)]) := by
  have GS : FnOk P w K mg base CX0 5 qS eS ["_law_pail", "_law_most"] (spSmall K) := ok_small B.s T R G2 G3 G.t G.gt FM gM
  have bS : Binds K eS ["_law_pail", "_law_most"] [] := B.s.bindsN fun _ _ _ _ _ _ us hl => match us, hl with | [_, _], _ => rfl
  have GB : FnOk P w K mg base CX0 10 qB eB ["_law_pail", "_law_parts"] (spBuilt K C) := ok_built B.b T M0 G.c G.gc X D M Z L
  have bB : Binds K eB ["_law_pail", "_law_parts"] [] := B.b.bindsN fun _ _ _ _ _ _ us hl => match us, hl with | [_, _], _ => rfl
  have GC : FnOk P w K mg base CX0 1 cC eC ["_law_pail", "_law_many"] spCast := ok_cast G.c T
  have bC : Binds K eC ["_law_pail", "_law_many"] [] := G.c.bindsN fun _ _ _ _ _ _ us hl => match us, hl with | [_, _], _ => rfl
  have GA : FnOk P w K mg base CX0 2 cA eA ["_law_pail", "_law_some"] (spAny K) := ok_any G.a T G.c G.gc
  have bA : Binds K eA ["_law_pail", "_law_some"] [] := G.a.bindsN fun _ _ _ _ _ _ us hl => match us, hl with | [_, _], _ => rfl
  have GQ : FnOk P w K mg base CX0 3 qQ eQ ["_law_pail", "_law_size"] (spSpot K) := ok_spot B.q T R G.c G.gc G.a G.ga
  have bQ : Binds K eQ ["_law_pail", "_law_size"] [] := B.q.bindsN fun _ _ _ _ _ _ us hl => match us, hl with | [_, _], _ => rfl
  have GP : FnOk P w K mg base CX0 1 qP eP ["_law_parts"] (Pg.spLl K fun ns ss as y H' => ∃ q, y = .ref q ∧ SqT K H' q ((placesS ss as).map V.str)) := Pg.ok_sp B.p M0
  have bP : Binds K eP ["_law_parts"] [] := B.p.bindsN fun _ _ _ _ _ _ us hl => match us, hl with | [_], _ => rfl
  have GH : FnOk P w K mg base CX0 3 qH eH ["_law_pail"] (spThing K) := ok_thing B.h T G.a G.ga G.c G.gc
  have bH : Binds K eH ["_law_pail"] [] := B.h.bindsN fun _ _ _ _ _ _ us hl => match us, hl with | [_], _ => rfl
  have GD : FnG P w K mg base 2 qD eD ["_law_parts", "_law_here", "_law_spot_here"] (spDue K) := ok_due B.d M0 U.repr FW gW B.p B.gp
  have bD : Binds K eD ["_law_parts", "_law_here", "_law_spot_here"] [] := B.d.bindsN fun _ _ _ _ _ _ us hl => match us, hl with | [_, _, _], _ => rfl
  have bI : Binds K eI ["self", "program", "place", "point"] [] := B.fi.bindsN fun _ _ _ _ _ _ us hl => match us, hl with | [_, _, _, _], _ => rfl
  have bT : Binds K eT2 ["self", "index"] [] := B.ft.bindsN fun _ _ _ _ _ _ us hl => match us, hl with | [_, _], _ => rfl
  have bU : Binds K eU ["self"] [] := B.fu.bindsN fun _ _ _ _ _ _ us hl => match us, hl with | [_], _ => rfl
  have Ga : FnOk P w K mg base CX0 2 ga da ["self"] (Pg.spLpl K C CH CL) := Pg.ok_lpl A0.pa.f A0.lc A0.hc
  have ba : Binds K da ["self"] [] := A0.pa.f.bindsN fun _ _ _ _ _ _ us hl => match us, hl with | [_], _ => rfl
  have Gb : FnOk P w K mg base CX0 2 gb db ["self"] (Pg.spLpo K C CH CL) := Pg.ok_lpo A0.pb.f A0.lc A0.hc
  have bb : Binds K db ["self"] [] := A0.pb.f.bindsN fun _ _ _ _ _ _ us hl => match us, hl with | [_], _ => rfl
  have Gt : FnOk P w K mg base CX0 1 gt dt ["self"] (Pg.spLta K C CH CL) := Pg.ok_lta A0.pt.f M0 A0.lc A0.hc.cl A0.hc.no
  have bt : Binds K dt ["self"] [] := A0.pt.f.bindsN fun _ _ _ _ _ _ us hl => match us, hl with | [_], _ => rfl
  have Gr : FnOk P w K mg base CX0 4 gr dr ["self"] (Pg.spLre K C CH CL) := Pg.ok_lre A0.pr.f M0 X A0.lc A0.hc A0.pa A0.pb FF gF GF P3 F3
  have br : Binds K dr ["self"] [] := A0.pr.f.bindsN fun _ _ _ _ _ _ us hl => match us, hl with | [_], _ => rfl
  have Gg : FnOk P w K mg base CX0 1 gg dg ["self"] (Pg.spLag K C CH CL) := Pg.ok_lag A0.pg.f M0 R.range A0.lc A0.hc.cl A0.hc.no
  have bg : Binds K dg ["self"] [] := A0.pg.f.bindsN fun _ _ _ _ _ _ us hl => match us, hl with | [_], _ => rfl
  have GO : FnQ P w K mg base 1 qO eO ["_law_e"] (spSort K (known c0 c1 c2 c3 c4 c5)) := ok_sort B.o BB US ER
  have bW : Binds K eW ["_law_call_here"] [] := B.w.bindsN fun _ _ _ _ _ _ us hl => match us, hl with | [_], _ => rfl
  have kW := B.w.kp
  obtain ⟨oc, od, dV', kV', doc, pm, an, cdn, ct, osl, rfl, lkW, hcdW, _, _⟩ := B.w.ex
  refine okGc F scRight (fun vs H Q E h => ?_) (fun c A outer s H vs Q E hcode hgd hr h => ?_)
  · obtain ⟨p, rfl, _⟩ := h
    rfl
  · obtain ⟨p, rfl, hp, hT, k⟩ := h
    cases HC c hcode
    have hr1 := hr.mono (show 1 ≤ 10 by decide)
    have hr2 := hr.mono (show 2 ≤ 10 by decide)
    have hr3 := hr.mono (show 3 ≤ 10 by decide)
    have hr5 := hr.mono (show 5 ≤ 10 by decide)
    have hr6 := hr.mono (show 6 ≤ 10 by decide)
    have hr8 := hr.mono (show 6 + 2 ≤ 10 by decide)
    refine ⟨_, PSs.nox <| pss_cons (ps_set (i := 1) scRight.nd rfl (.inl rfl) (pe_call GS hr5 (by rfl) B.gs B.s.kp bS .nil pass0 (pa_cons (pv 0) (pa_cons pe_int pa_nil))))
      <| pss_cons (ps_asg (pe_tupR (pa_cons (pe_call GB hr (by rfl) B.gb B.b.kp bB .nil pass0 (pa_cons (pv 0) (pa_cons (pv 1) pa_nil))) (pa_cons (pe_callB call_len (by rfl) M0.len PySem.boot_len (pa_cons (pe_ix (r := rIxL K) ix_list (pv 1) pe_int (fun _ _ => rfl)) pa_nil)) (pa_cons (pe_callTy call_list_of (by rfl) U.list (by decide +kernel) (pa_cons (pe_call GP hr1 (by rfl) B.gp B.p.kp bP .nil pass0 (pa_cons (pv 1) pa_nil)) pa_nil)) pa_nil))))
          (pg_tup (by rfl) (pgs_cons (pg_name (i := 2) scRight.nd rfl (.inr rfl)) (pgs_cons (pg_name (i := 3) scRight.nd rfl (.inl rfl)) (pgs_cons (pg_name (i := 4) scRight.nd rfl (.inl rfl)) pgs_nil)))))
      <| pss_cons (ps_set (i := 5) scRight.nd rfl (.inr rfl) (pe_make (E := E0) B.mi GI hr6 (by rfl) B.gL bI .nil passL (pa_cons (pv 2) (pa_cons (pe_ix (r := rIxL K) ix_list (pv 4) pe_int (fun _ _ => rfl)) (pa_cons (pe_call GQ hr3 (by rfl) B.gq B.q.kp bQ .nil pass0 (pa_cons (pv 0) (pa_cons (pv 3) pa_nil))) pa_nil)))))
      <| pss_cons (ps_set (i := 6) scRight.nd rfl (.inl rfl) (pe_callB (call_repr hgd hr.units) (by rfl) U.repr boot_repr (pa_cons (pe_lstR (pa_cons (pe_prop (pv 5) A0.lc.cl A0.pa.p Ga hr3 ba .nil pass0 (by rfl)) (pa_cons (pe_prop (pv 5) A0.lc.cl A0.pb.p Gb hr3 bb .nil pass0 (by rfl)) (pa_cons (pe_prop (pv 5) A0.lc.cl A0.pt.p Gt hr2 bt .nil pass0 (by rfl)) (pa_cons (pe_prop (pv 5) A0.lc.cl A0.pr.p Gr hr5 br .nil pass0 (by rfl)) (pa_cons (pe_prop (pv 5) A0.lc.cl A0.pg.p Gg hr2 bg .nil pass0 (by rfl)) pa_nil)))))) pa_nil)))
      <| pss_cons (ps_for PassesOwn.never rfl (pi_range1 (by rfl) R.range (pa_cons pe_int pa_nil)) (pg_name (i := 7) scRight.nd rfl (.inl rfl))
          (pss_cons (ps_asg (pe_tupR (pa_cons (pe_call GQ hr3 (by rfl) B.gq B.q.kp bQ .nil pass0 (pa_cons (pv 0) (pa_cons (pv 3) pa_nil))) (pa_cons (pe_call GH hr3 (by rfl) B.gh B.h.kp bH .nil pass0 (pa_cons (pv 0) pa_nil)) pa_nil))) (pg_tup (by rfl) (pgs_cons (pg_name (i := 8) scRight.nd rfl (.inl rfl)) (pgs_cons (pg_name (i := 9) scRight.nd rfl (.inr rfl)) pgs_nil))))
          <| pss_cons (ps_set (i := 10) scRight.nd rfl (.inr rfl) (pe_call GA hr2 (by rfl) G.ga G.a.kp bA .nil pass0 (pa_cons (pv 0) (pa_cons (pe_op op_catR (pe_op op_catR (pv 4) (pv 4)) (pe_lstR <| pa_cons pe_str <| pa_cons pe_non <| pa_cons (pe_tupR (pa_cons (pe_ix (r := rIxL K) ix_list (pv 4) pe_int (fun _ _ => rfl)) pa_nil)) <| pa_cons (pv 9) pa_nil)) pa_nil))))
          <| pss_cons (ps_set (i := 11) scRight.nd rfl (.inr rfl) (pe_call GA hr2 (by rfl) G.ga G.a.kp bA .nil pass0 (pa_cons (pv 0) (pa_cons (pe_lstR <| pa_cons (pv 8) <| pa_cons (pv 8) <| pa_cons (pe_slice (r := Pg.rSlTR K) Pg.sl_tupR (pv 8) (po_some pe_int) po_none) <| pa_cons (pe_op op_catA (pv 8) (pe_tupR (pa_cons pe_int pa_nil))) <| pa_cons (pe_callTy call_list_of (by rfl) U.list (by decide +kernel) (pa_cons (pv 8) pa_nil))
              <| pa_cons (pe_op op_repA (pe_tupR (pa_cons pe_bl pa_nil)) (pv 3)) <| pa_cons (pv 9) pa_nil) pa_nil))))
          <| pss_cons (ps_par (i := 12) (j := 13) rfl scRight.nd rfl rfl (by decide) rfl rfl (pa_cons (pe_callG GD hgd hr2 (by rfl) B.gd B.d.kp bD (pa_cons (pv 1) (pa_cons (pv 10) (pa_cons (pv 11) pa_nil)))) (pa_cons (pe_lamcall (T := [(tR, lamQ)]) (TT := TTans K (known c0 c1 c2 c3 c4 c5)) (by rfl) B.gw kW lkW hcdW bW scAns rfl (.inl rfl) (ans_gives rfl rfl hr2 hgd BB ER B.o B.go GO) TB rfl (List.mem_singleton.mpr rfl) (fun q hq _ => by rw [List.mem_singleton.mp hq]; rfl) hr8 (lamS_by (by show lamSB (defScope sRight) _ = true; decide +kernel)) rfl (fun _ _ _ _ _ => rfl)
                (fun A outer s H E f c' hr' => pe_make (E := E) B.mi GI hr' (by rfl) B.gL bI .nil (passes_call (takes_of rfl rfl rfl rfl) fun _ _ _ _ h => h) (pa_cons (pv 2) (pa_cons (pv 10) (pa_cons (pv 11) pa_nil))))) pa_nil)) (by rfl))
          <| pss_cons (ps_if (PW.pt (pw_or (PW.pt (pw_and (pt_cmpR (op_neE hr.units) (pv 12) (pe_lstR pa_nil) (nomark _)) (pw_and1 (pt_cmpR (op_neP hr.units) (pv 13) (pv 12) (nomark _)))))
                (pw_or1 (PW.pt (pw_and (pt_cmpR (op_eqE hr.units) (pv 12) (pe_lstR pa_nil) (nomark _)) (pw_and1 (pt_cmpR op_ne (pe_ix (r := rIxL K) ix_list (pv 13) pe_int (fun _ _ => rfl)) pe_str (nomark _)))))))) (pss_one (ps_ret pe_bl)) pss_nil)
          <| pss_cons (ps_if (pt_cmpR (op_neP hr.units) (pe_lamcall (T := [(tR, lamQ)]) (TT := TTans K (known c0 c1 c2 c3 c4 c5)) (by rfl) B.gw kW lkW hcdW bW scAns rfl (.inl rfl) (ans_gives rfl rfl hr2 hgd BB ER B.o B.go GO) TB rfl (List.mem_singleton.mpr rfl) (fun q hq _ => by rw [List.mem_singleton.mp hq]; rfl) hr8 (lamS_by (by show lamSB (defScope sRight) _ = true; decide +kernel)) rfl (fun _ _ _ _ _ => rfl)
                (fun A outer s H E f c' hr' => pe_make (E := E) B.mi GI hr' (by rfl) B.gL bI .nil (passes_call (takes_of rfl rfl rfl rfl) fun _ _ _ _ h => h) (pa_cons (pv 9) (pa_cons (pv 10) (pa_cons (pv 11) pa_nil))))) (pe_lstR (pa_cons pe_str (pa_cons (pe_callB (call_repr hgd hr.units) (by rfl) U.repr boot_repr (pa_cons (pv 9) pa_nil)) pa_nil))) (nomark _)) (pss_one (ps_ret pe_bl)) pss_nil)
          <| pss_cons (ps_set (i := 14) scRight.nd rfl (.inr rfl) (pe_call GA hr2 (by rfl) G.ga G.a.kp bA .nil pass0 (pa_cons (pv 0) (pa_cons (pe_lstR <| pa_cons (pe_un un_neg pe_int) <| pa_cons (pe_callB call_len (by rfl) M0.len PySem.boot_len (pa_cons (pe_ix (r := rIxL K) ix_list (pv 1) pe_int (fun _ _ => rfl)) pa_nil)) <| pa_cons pe_non <| pa_cons pe_bl <| pa_cons pe_bl <| pa_cons pe_str <| pa_cons (pe_tupR (pa_cons pe_int pa_nil)) <| pa_cons (pe_op op_pow pe_int pe_int) <| pa_cons (pe_lstR pa_nil) pa_nil) pa_nil))))
          <| pss_cons (ps_if (pt_cmpR (op_neP hr.units) (pe_lamcall (T := [(tR, lamQ)]) (TT := TTans K (known c0 c1 c2 c3 c4 c5)) (by rfl) B.gw kW lkW hcdW bW scAns rfl (.inl rfl) (ans_gives rfl rfl hr2 hgd BB ER B.o B.go GO) TB rfl (List.mem_singleton.mpr rfl) (fun q hq _ => by rw [List.mem_singleton.mp hq]; rfl) hr8 (lamS_by (by show lamSB (defScope sRight) _ = true; decide +kernel)) rfl (fun _ _ _ _ _ => rfl)
                (fun A outer s H E f c' hr' => pe_meth (E := E) (pv 5) A0.lc.cl B.mt GT (hr'.mono (show 5 ≤ 6 by decide)) bT .nil (passes_call (takes_of rfl rfl rfl rfl) fun _ _ _ _ h => h) (pa_cons (pv 14) pa_nil))) (pe_lstR (pa_cons pe_str (pa_cons (pe_callB (call_repr hgd hr.units) (by rfl) U.repr boot_repr (pa_cons (pv 14) pa_nil)) pa_nil))) (nomark _)) (pss_one (ps_ret pe_bl)) pss_nil)
          <| pss_cons (ps_asg (pe_tupR (pa_cons (pe_call GC hr1 (by rfl) G.gc G.c.kp bC .nil pass0 (pa_cons (pv 0) (pa_cons (pe_callB call_len (by rfl) M0.len PySem.boot_len (pa_cons (pe_ix (r := rIxL K) ix_list (pv 1) pe_int (fun _ _ => rfl)) pa_nil)) pa_nil))) (pa_cons (pe_prop (pv 5) A0.lc.cl A0.pr.p Gr hr5 br .nil pass0 (by rfl)) pa_nil))) (pg_tup (by rfl) (pgs_cons (pg_name (i := 15) scRight.nd rfl (.inr rfl)) (pgs_cons (pg_name (i := 16) scRight.nd rfl (.inl rfl)) pgs_nil))))
          <| pss_cons (ps_set (i := 13) scRight.nd rfl (.inl rfl) (pe_lamcall (T := [(tR, lamQ)]) (TT := TTans K (known c0 c1 c2 c3 c4 c5)) (by rfl) B.gw kW lkW hcdW bW scAns rfl (.inl rfl) (ans_gives rfl rfl hr2 hgd BB ER B.o B.go GO) TB rfl (List.mem_singleton.mpr rfl) (fun q hq _ => by rw [List.mem_singleton.mp hq]; rfl) hr8 (lamS_by (by show lamSB (defScope sRight) _ = true; decide +kernel)) rfl (fun _ _ _ _ _ => rfl)
                (fun A outer s H E f c' hr' => pe_meth (E := E) (pv 5) A0.lc.cl B.mt GT (hr'.mono (show 5 ≤ 6 by decide)) bT .nil (passes_call (takes_of rfl rfl rfl rfl) fun _ _ _ _ h => h) (pa_cons (pv 15) pa_nil))))
          <| pss_cons (ps_if (PW.pt (pw_or (pt_cmpR op_ne (pe_cmpR op_eq (pe_ix (r := rIxL K) ix_list (pv 13) pe_int (fun _ _ => rfl)) pe_str (nomark _)) (pe_cmpR (r := rIn K false) op_in_seq (pv 15) (pv 16) (by rfl)) (nomark _))
                (pw_or1 (PW.pt (pw_and (pt_cmpR op_ne (pe_ix (r := rIxL K) ix_list (pv 13) pe_int (fun _ _ => rfl)) pe_str (nomark _)) (pw_and1 (pt_cmpR (op_neP hr.units) (pv 13) (pe_lstR (pa_cons pe_str (pa_cons (pe_callTy call_str_int (by rfl) M0.str (by decide +kernel) (pa_cons (pv 15) pa_nil)) pa_nil))) (nomark _)))))))) (pss_one (ps_ret pe_bl)) pss_nil)
          <| pss_cons (ps_if (PW.pt (pw_and (pt_cmpR op_eq (pe_ix (r := rIxL K) ix_list (pv 13) pe_int (fun _ _ => rfl)) pe_str (nomark _)) (pw_and1 (pt_cmp (pc_notN (pe_meth0 (E := E0) (pv 5) A0.lc.cl B.mu GU hr3 bU .nil passL)))))) (pss_one (ps_ret pe_bl)) pss_nil)
          <| pss_one (ps_if (pt_cmpR op_ne (pe_callB (call_repr hgd hr.units) (by rfl) U.repr boot_repr (pa_cons (pe_lstR (pa_cons (pe_prop (pv 5) A0.lc.cl A0.pa.p Ga hr3 ba .nil pass0 (by rfl)) (pa_cons (pe_prop (pv 5) A0.lc.cl A0.pb.p Gb hr3 bb .nil pass0 (by rfl)) (pa_cons (pe_prop (pv 5) A0.lc.cl A0.pt.p Gt hr2 bt .nil pass0 (by rfl)) (pa_cons (pe_prop (pv 5) A0.lc.cl A0.pr.p Gr hr5 br .nil pass0 (by rfl)) (pa_cons (pe_prop (pv 5) A0.lc.cl A0.pg.p Gg hr2 bg .nil pass0 (by rfl)) pa_nil)))))) pa_nil)) (pv 6) (nomark _)) (pss_one (ps_ret pe_bl)) pss_nil)))
      <| pss_one (ps_ret (pe_cmpR (op_eqP hr.units) (pe_lamcall (T := [(tR, lamQ)]) (TT := TTans K (known c0 c1 c2 c3 c4 c5)) (by rfl) B.gw kW lkW hcdW bW scAns rfl (.inl rfl) (ans_gives rfl rfl hr2 hgd BB ER B.o B.go GO) TB rfl (List.mem_singleton.mpr rfl) (fun q hq _ => by rw [List.mem_singleton.mp hq]; rfl) hr8 (lamS_by (by show lamSB (defScope sRight) _ = true; decide +kernel)) rfl (fun _ _ _ _ _ => rfl)
                (fun A outer s H E f c' hr' => pe_meth0 (E := E) (pv 5) A0.lc.cl B.mu GU (hr'.mono (show 3 ≤ 6 by decide)) bU .nil (passes_call (takes_of rfl rfl rfl rfl) fun _ _ _ _ h => h))) (pe_lstR (pa_cons pe_str (pa_cons pe_str pa_nil))) (nomark _))), ?_⟩
    have big : ∀ {n : Nat}, n ≤ 10000 → n ≤ sizeLine := fun {n} h => Nat.le_trans h (by decide)
    refine ⟨_, rfl, p, 5, rfl, by decide, by decide, hp, fun r u v z ns ss as H3 ok nr er hu hv hz hp3 b3 => ?_⟩
    have rp : r ≠ p := (hp.ne nr).symm
    have t3 := tabs_but hT hp b3
    obtain ⟨ub, us, rfl, hub0, hus0⟩ := Pg.rp_tup (.inl hu)
    obtain ⟨zb, zs, rfl, hzb0, hzs0⟩ := Pg.rp_tup (.inl hz)
    have n3 := ok.n.three
    have a1 := ok.a.one
    have a5 := ok.a.five
    have pl1 := places_some ok.a
    have pl3 := ok.a.pl
    refine ⟨_, rfl, _, rfl, p, r, .ref ub, v, .ref zb, ns, ss, as, rfl, rp, hp3, er, hu, hv, hz, ok, fun x H4 hp4 b4 g => ?_⟩
    have t4 := tabs_but t3 hp3 b4
    have nl4 := b4.nl hp3
    have er4 := b4 _ _ er rp
    have hu4 := dp_nl nl4 _ (nol_n ns) hu
    have hv4 := dp_nl nl4 _ (Pg.nol_says ss) hv
    have hz4 := dp_nl nl4 _ (nol_a as) hz
    have b04 : ButT p H H4 := b3.t.trans b4.t
    clear er hu hv hz b4 nl4 t3 b3 nr hub0 hus0 hzb0 hzs0
    obtain ⟨ub', us', ez, hub, hus⟩ := Pg.rp_tup (.inl hu4)
    cases ez
    have lu := Pg.dp_len' hus
    rw [List.length_map] at lu
    refine ⟨_, rfl, r, _, 0, _, rfl, rfl, SqL.of er4, rfl, _, _, rfl, .inr ⟨_, hub, rfl⟩, ?_⟩
    rw [lu]
    refine ⟨_, rfl, r, .ref ub, v, .ref zb, _, ns, ss, as, rfl, er4, hu4, hv4, hz4, ok.t, fun y5 H5 s5 hq5 => ?_⟩
    obtain ⟨q5, rfl, hq5⟩ := hq5
    refine ⟨q5, _, rfl, .inr hq5, fun spl nspl => ?_⟩
    have s56 := same_new (o := .lst ((placesS ss as).map V.str)) nspl
    have hspl : (upd H5 spl (.lst ((placesS ss as).map V.str))) spl = some (.lst ((placesS ss as).map V.str)) := upd_same
    have hp5 := hp4.same s5
    have spp : spl ≠ p := (hp5.ne nspl).symm
    generalize upd H5 spl (.lst ((placesS ss as).map V.str)) = H6 at s56 hspl
    refine ⟨(show 3 ≤ 1000 by decide), fun T7 H7 n7 => ?_⟩
    refine ⟨T7, _, rfl, SqT.of n7.2.1, rfl, _, _, rfl, _, _, rfl, _, _, rfl, rfl, ?_⟩
    have s47 := s5.trans (s56.trans n7.2.2)
    have g7 := g.same s47
    have er7 := s47 _ _ er4
    have hu7 := dp_same s47 _ hu4
    have hv7 := dp_same s47 _ hv4
    have hz7 := dp_same s47 _ hz4
    have t7 := tabs_same t4 s47
    have hp7 := hp4.same s47
    have b07 : ButT p H H7 := b04.trans (ext_t (same_ext s47))
    have hs7 := n7.2.2 _ _ hspl
    clear n7 s47 s56 hspl nspl hq5 s5 er4 hu4 hv4 hz4 g t4 b04 hub hus lu hp5
    obtain ⟨z0, ez0⟩ : ∃ z0, (placesS ss as)[0]? = some z0 := ⟨_, List.getElem?_eq_getElem pl1⟩
    have hz0 : z0 ∈ placesS ss as := List.mem_of_getElem? ez0
    have nz0 := place_name ok.s ok.a hz0
    have at0 : atI ((placesS ss as).map V.str) 0 = some (.str z0) := by
      show atI _ ((0 : Nat) : Int) = _
      apply atI_nat
      rw [List.getElem?_map, ez0]
      rfl
    refine ⟨_, rfl, _, rfl, spl, _, 0, _, rfl, rfl, SqL.of hs7, at0, _, rfl, _, rfl, p, ns.length, rfl, n3, hp7, fun vx xs H8 lx fx dx hp8 b8 => fun l dxl nl ndl nel => ?_⟩
    have nl8 := b8.nl hp7
    have g8 := prog_nl nl8 g7
    have er8 := b8 _ _ er7 rp
    have hu8 := dp_nl nl8 _ (nol_n ns) hu7
    have hv8 := dp_nl nl8 _ (Pg.nol_says ss) hv7
    have hz8 := dp_nl nl8 _ (nol_a as) hz7
    have hs8 := b8 _ _ hs7 spp
    have t8 := tabs_but t7 hp7 b8
    have b08 := b07.trans b8.t
    have okx : okD (fD xs) = true := (okV_pt fx (by omega)).ok
    refine ⟨H8, l, dxl, _, _, _, rfl, made_same nl ndl, nl, upd_same, .inr ⟨x, ns, ss, as, .str z0, fD xs, rfl, g8, ok, .inl (.str _), .inl dx, okx, (fun b => ?_), (fun _ b => ?_), fun z' xs' e1 e2 hz' lx' h H9 s9 nh gL => ⟨rfl, ?_⟩⟩⟩
    · have : plB (placesS ss as) (.str z0) = true := List.contains_iff_mem.mpr hz0
      rw [this] at b
      cases b
    · have b2 : intsB ns.length (fD xs) = true := by
        show (decide ((xs.map PyData.int).length = ns.length) && (xs.map PyData.int).all intB) = true
        rw [List.length_map, decide_eq_true lx, List.all_map, Bool.true_and]
        exact List.all_eq_true.mpr fun _ _ => rfl
      rw [b2] at b
      cases b
    have ez' : z' = z0 := (PyData.str.inj e1).symm
    have exs : xs' = xs := fd_inj e2.symm
    subst ez'
    subst exs
    have hph : h ≠ p := (hp8.ne nh).symm
    have nhH : ∀ o, H h = some o → ∃ ps, o = .tbl ps := fun o e => by
      rcases Classical.em (∃ ps, o = .tbl ps) with z | z
      · exact z
      · have e2 := b08 h o e hph (fun ps q => z ⟨ps, q⟩)
        rw [nh] at e2
        cases e2
    have N9 : Nv K C CH CL H9 l x r h spl (.ref ub) v (.ref zb) ns ss as [(none, z', xs')] := ⟨gL, s9 _ _ er8, dp_same s9 _ hu8, dp_same s9 _ hv8, dp_same s9 _ hz8, s9 _ _ hs8⟩
    have hp9 := hp8.same s9
    have t9 := tabs_same t8 s9
    have b09 := b08.trans (ext_t (same_ext s9))
    have bx : Bt xs' := far_bt fx
    have SHB := sh_bare (as := as) (s := (none, z', xs')) a5 (show xs'.length ≤ 3 by omega) fx nz0
    clear er8 hu8 hv8 hz8 hs8 g8 t8 b08 s9 gL nl8 er7 hu7 hv7 hz7 g7 t7 b07 hs7 b8 hp7 hp8 nl ndl nel nh dx okx e1 e2 hz' lx'
    obtain ⟨⟨dxl, hlS⟩, _, _⟩ := id N9.g
    refine ⟨_, rfl, l, dxl, _, rfl, hlS, l, x, h, ns, ss, as, _, (none, z', xs'), rfl, N9.g, rfl, ?_⟩
    refine ⟨_, rfl, l, dxl, _, rfl, hlS, l, x, h, ns, ss, as, _, (none, z', xs'), rfl, N9.g, rfl, fun v1 hv1 => ?_⟩
    refine ⟨_, rfl, l, dxl, _, rfl, hlS, l, x, h, ns, ss, as, _, rfl, N9.g, (show 1 ≤ 900 by decide), fun v2 Hs1 s1 hv2 => ?_⟩
    refine ⟨_, rfl, l, dxl, _, rfl, s1 _ _ hlS, l, x, h, ns, ss, as, _, (none, z', xs'), rfl, N9.g.same s1, ok, rfl, lx, bx, fun v3 Hs2 s2 hv3 => ?_⟩
    refine ⟨_, rfl, l, dxl, _, rfl, (s1.trans s2) _ _ hlS, l, x, h, ns, ss, as, _, rfl, N9.g.same (s1.trans s2), (show 1 ≤ 900 by decide), fun Hs3 s3 => ⟨(show 5 ≤ 1000 by decide), fun GL Hs4 n4 => ?_⟩⟩
    have hG : Dp K Hs4 (.ref GL) (.list (bareD as (none, z', xs'))) := by
      refine .lst (SqL.of n4.2.1) (.cons (.str _) (.cons ?_ (.cons ?_ (.cons ?_ (.cons ?_ .nil)))))
      · exact dp_same (s1.trans (s2.trans (s3.trans n4.2.2))) _ hv1
      · exact dp_same (s2.trans (s3.trans n4.2.2)) _ hv2
      · exact dp_same (s3.trans n4.2.2) _ hv3
      · exact Pg.dp_ixV _
    refine ⟨.ref GL, .list (bareD as (none, z', xs')), rfl, .inl hG, SHB.sh, Nat.le_trans SHB.dp (by decide), big SHB.len, ?_⟩
    have s914 := s1.trans (s2.trans (s3.trans n4.2.2))
    have N14 := N9.same s914
    have hp14 := hp9.same s914
    have t14 := tabs_same t9 s914
    have b014 := b09.trans (ext_t (same_ext s914))
    clear N9 hp9 t9 b09 s914 s1 s2 s3 n4 hv1 hv2 hv3 hG
    refine ⟨10, rfl, by decide, by decide, for_range (n := 10) (fun i σ H' => ∃ y7 y8 y9 y10 y11 y12 y13 y14 y15 y16 : Option V, σ = [some (.ref p), some (.ref r), some (.ref x), some (.int (ns.length : Nat)), some (.ref spl), some (.ref l), some (.str (PyData.list (bareD as (none, z', xs'))).shown), y7, y8, y9, y10, y11, y12, y13, y14, y15, y16] ∧ Pail H' p ∧ ButT p H H' ∧ Tabs [(tR, lamQ)] H' ∧ Nv K C CH CL H' l x r h spl (.ref ub) v (.ref zb) ns ss as [(none, z', xs')]) ⟨_, _, _, _, _, _, _, _, _, _, rfl, hp14, b014, t14, N14⟩ ?_ ?_⟩
    · clear N14 hp14 t14 b014
      rintro i σ H1 hi ⟨y7, y8, y9, y10, y11, y12, y13, y14, y15, y16, rfl, hp1, b1, t1, N1⟩
      have el0 : ([(none, z', xs')] : List Stt).getLast? = some (none, z', xs') := rfl
      -- a point, a thing
      refine ⟨_, rfl, _, rfl, p, ns.length, rfl, n3, hp1, fun vg ys H2 ly fy dy hp2 b2 => ⟨_, rfl, p, rfl, hp2, fun vt H3 th3 hp3 b3 => ⟨(show 2 ≤ 1000 by decide), fun T4 H4 n4 => ?_⟩⟩⟩
      refine ⟨T4, _, rfl, SqT.of n4.2.1, rfl, _, _, rfl, _, _, rfl, rfl, ?_⟩
      have b24 : But p H2 H4 := b3.trans (but_same n4.2.2)
      have b14 : But p H1 H4 := b2.trans b24
      have N4 := N1.but b14 hp1 rp spp
      have hp4 := hp3.same n4.2.2
      have t4 := tabs_but t1 hp1 b14
      have b04 := b1.trans b14.t
      obtain ⟨dT, rT, oT, _⟩ := th3
      replace rT : Rp K (delH H4 p) vt dT := rp_sm (same_dels (but_same n4.2.2)) rT
      have dy4 : Dp K H4 vg (fD ys) := dp_nl (b24.nl hp2) _ (Pg.nol_f _) dy
      obtain ⟨ag, rfl, hgs⟩ := Pg.fd_ints dy4
      have lwg : (ys.map V.int).length = ns.length := by rw [List.length_map, ly]
      clear N1 hp1 t1 b1 b2 b3 n4 b24 b14 hp2 hp3 dy
      -- a place
      have hs4 := N4.sp
      refine ⟨_, rfl, _, rfl, _, rfl, spl, spl, _, _, rfl, rfl, hs4, hs4, by rw [List.length_map]; omega, fun C5 H5 n5 => ?_⟩
      refine ⟨_, rfl, spl, _, 0, _, rfl, rfl, SqL.of (n5.2.2 _ _ hs4), at0, (show 1 ≤ 1000 by decide), fun T6 H6 n6 => ⟨_, rfl, (show 4 ≤ 1000 by decide), fun L7 H7 n7 => ?_⟩⟩
      refine ⟨C5, L7, _, _, rfl, rfl, n7.2.2 _ _ (n6.2.2 _ _ n5.2.1), n7.2.1, by rw [List.length_append, List.length_map]; show _ + _ + 4 ≤ 1000; omega, fun C8 H8 n8 => ?_⟩
      have s48 := n5.2.2.trans (n6.2.2.trans (n7.2.2.trans n8.2.2))
      have hp8 := hp4.same s48
      have c8p : C8 ≠ p := ((hp4.same (n5.2.2.trans (n6.2.2.trans n7.2.2))).ne n8.1).symm
      have rT6 : Rp K (delH H8 p) (.ref T6) (.tuple [.str z']) := .inl (dp_nl (nl_dels hp8) _ (by simp [Pg.nolD, Pg.nolAll]) (.tup (SqT.of (n8.2.2 _ _ (n7.2.2 _ _ n6.2.1))) (.cons (.str _) .nil)))
      have N8 := N4.same s48
      have t8 := tabs_same t4 s48
      have b08 := b04.trans (ext_t (same_ext s48))
      replace rT : Rp K (delH H8 p) vt dT := rp_sm (same_dels (but_same s48)) rT
      have dg8 : SqT K H8 ag (ys.map V.int) := Same.seqT s48 hgs
      have hl8 := n8.2.1
      clear N4 hp4 t4 b04 hs4 n5 n6 n7 n8 s48 hgs dy4
      refine ⟨p, C8, _, rfl, hp8, hl8, c8p, by rw [List.length_append]; exact Nat.lt_of_lt_of_le (show 0 < 4 by decide) (Nat.le_add_left _ _), by rw [List.length_append, List.length_append, List.length_map]; show _ + _ + 4 ≤ 1000; omega, fun i9 vh H9 ex9 hp9 b9 => ?_⟩
      obtain ⟨dH, rH, oH⟩ : ∃ d, Rp K (delH H9 p) vh d ∧ OkV d := by
        have sd := same_dels (p := p) b9
        have hm := List.mem_of_getElem? ex9
        have str : ∀ w ∈ (placesS ss as).map V.str, ∃ d, Rp K (delH H9 p) w d ∧ OkV d := fun w hw => by
          obtain ⟨q, hq, rfl⟩ := List.mem_map.mp hw
          exact ⟨.str q, .inl (.str _), okV_name (place_name ok.s ok.a hq)⟩
        rcases List.mem_append.mp hm with hm | hm
        · rcases List.mem_append.mp hm with hm | hm <;> exact str _ hm
        · simp only [List.mem_cons, List.not_mem_nil, or_false] at hm
          rcases hm with rfl | rfl | rfl | rfl
          · exact ⟨.str "none", .inl (.str _), (okV_of (by decide +kernel)).1⟩
          · exact ⟨.none, .inl .non, (okV_of (by decide +kernel)).1⟩
          · exact ⟨_, rp_sm sd rT6, okV_name1 nz0⟩
          · exact ⟨_, rp_sm sd rT, oT⟩
      have N9 := N8.but b9 hp8 rp spp
      have t9 := tabs_but t8 hp8 b9
      have b09 := b08.trans b9.t
      replace rT : Rp K (delH H9 p) vt dT := rp_sm (same_dels b9) rT
      have hg9 : SqT K H9 ag (ys.map V.int) := seqT_nl (b9.nl hp8) dg8
      clear N8 hp8 t8 b08 b9 hl8 c8p dg8 rT6 ex9
      -- a point
      have up : ∀ {H H' : Hp} {v : V} {d : PyData}, Same H H' → Rp K (delH H p) v d → Rp K (delH H' p) v d := fun s h => rp_sm (same_dels (but_same s)) h
      have d9 : Dp K H9 (.ref ag) (fD ys) := dp_ints hg9
      have og : OkV (fD ys) := okV_pt fy (by omega)
      refine ⟨_, rfl, _, rfl, _, rfl, _, rfl, _, rfl, ag, _, rfl, hg9, fun q12 H12 s12 hq12 => ?_⟩
      rw [Pg.cut_from1, ← List.map_drop] at hq12
      have hp12 := hp9.same s12
      have r12 := mk_pt hp12 (dp_ints hq12)
      have o12 : OkV (fD (ys.drop 1)) := okV_pt (fun z hz => fy z (List.mem_of_mem_drop hz)) (by rw [List.length_drop]; omega)
      refine ⟨_, rfl, (show 1 ≤ 1000 by decide), fun T13 H13 n13 => catA_dp (dp_same (s12.trans n13.2.2) _ d9) (dp_ints (f := [0]) (SqT.of n13.2.1)) (by simp; omega) fun v14 H14 s14 d14 => ?_⟩
      have s1214 := n13.2.2.trans s14
      have hp14 := hp12.same s1214
      have d14b : Dp K H14 v14 (fD (ys ++ [0])) := by
        show Dp K H14 v14 (.tuple ((ys ++ [0]).map PyData.int))
        rw [List.map_append]
        exact d14
      have r14 := mk_pt hp14 d14b
      have o14 : OkV (fD (ys ++ [0])) := okV_pt (fun z hz => by
        rcases List.mem_append.mp hz with hz | hz
        · exact fy z hz
        · rw [List.mem_singleton.mp hz]
          exact far_small (by omega)) (by rw [List.length_append, List.length_singleton]; omega)
      have s914 := s12.trans s1214
      refine ⟨_, rfl, ag, _, rfl, .inr (Same.seqT s914 hg9), fun l15 nl15 => ?_⟩
      have s15 := same_new (o := .lst (ys.map V.int)) nl15
      have hl15 : (upd H14 l15 (.lst (ys.map V.int))) l15 = some (.lst (ys.map V.int)) := upd_same
      have m15 : l15 ≠ p := (hp14.ne nl15).symm
      generalize upd H14 l15 (.lst (ys.map V.int)) = H15 at s15 hl15
      have hp15 := hp14.same s15
      have r15 : Rp K (delH H15 p) (.ref l15) (.list (ys.map PyData.int)) := .inl (.lst (SqL.of ((delH_ne m15).trans hl15)) (ints_all ys))
      have o15 : OkV (.list (ys.map PyData.int)) := okV_ls fy (by omega)
      refine ⟨(show 1 ≤ 1000 by decide), fun T16 H16 n16 => ⟨_, rfl, T16, _, _, rfl, rfl, SqT.of n16.2.1, by simp, by have := ok.n.one; omega, by omega, (show 1 ≤ 1000 by decide), fun q17 H17 s17 hq17 => ?_⟩⟩
      have hp17 := (hp15.same n16.2.2).same s17
      rw [Int.toNat_natCast] at hq17
      have r17 : Rp K (delH H17 p) (.ref q17) (.tuple (List.replicate ns.length (.bool true))) := .inl (dp_nl (nl_dels hp17) _ (by show Pg.nolAll (List.replicate ns.length (PyData.bool true)) = true; exact nol_rep rfl _) (.tup hq17 (rep_dp (.bl true) _)))
      have s1517 : Same H15 H17 := n16.2.2.trans s17
      refine ⟨_, rfl, (show 7 ≤ 1000 by decide), fun L18 H18 n18 => ?_⟩
      have s1518 := s1517.trans n18.2.2
      have s1418 := s15.trans s1518
      have s918 := s914.trans s1418
      have hp18 := hp17.same n18.2.2
      refine ⟨p, L18, _, rfl, hp18, n18.2.1, (hp17.ne n18.1).symm, (show 0 < 7 by decide), (show 7 ≤ 1000 by decide), fun i19 vs H19 ex19 hp19 b19 => ?_⟩
      obtain ⟨dS, rS, oS⟩ : ∃ d, Rp K (delH H19 p) vs d ∧ OkV d := by
        have sd := same_dels (p := p) b19
        have hm := List.mem_of_getElem? ex19
        simp only [List.mem_cons, List.not_mem_nil, or_false] at hm
        rcases hm with rfl | rfl | rfl | rfl | rfl | rfl | rfl
        · exact ⟨_, rp_sm sd (up s918 (mk_pt hp9 d9)), og⟩
        · exact ⟨_, rp_sm sd (up s918 (mk_pt hp9 d9)), og⟩
        · exact ⟨_, rp_sm sd (up (s1214.trans s1418) r12), o12⟩
        · exact ⟨_, rp_sm sd (up s1418 r14), o14⟩
        · exact ⟨_, rp_sm sd (up s1518 r15), o15⟩
        · exact ⟨_, rp_sm sd (up n18.2.2 r17), okV_trues n3⟩
        · exact ⟨_, rp_sm sd (up s918 rT), oT⟩
      have bt19 : But p H9 H19 := (but_same s918).trans b19
      have N19 := N9.but bt19 hp9 rp spp
      have t19 := tabs_but t9 hp9 bt19
      have b019 := b09.trans bt19.t
      replace rT : Rp K (delH H19 p) vt dT := rp_sm (same_dels bt19) rT
      replace rH : Rp K (delH H19 p) vh dH := rp_sm (same_dels bt19) rH
      clear N9 hp9 t9 b09 bt19 b19 ex19 r12 r14 r15 r17 o12 o14 o15 hq12 hq17 d14 d14b n13 n16 n18 s12 s14 s15 s17 s1214 s914 s1517 s1518 s1418 s918 d9 hg9 hl15 nl15 hp12 hp14 hp15 hp17 hp18 og
      replace rT := rp_sm same_to rT
      replace rH := rp_sm same_to rH
      replace rS := rp_sm same_to rS
      -- what is due, what comes
      refine ⟨_, rfl, _, rfl, _, rfl, r, .ref ub, v, .ref zb, vh, vs, ns, ss, as, dH, dS, rfl, N19.r, N19.u, N19.v, N19.z, ok, rH, oH, rS, oS, fun lD H20 s20 hD => ?_⟩
      have N20 := N19.same s20
      have hp20 := hp19.same s20
      have t20 := tabs_same t19 s20
      have b020 := b019.trans (ext_t (same_ext s20))
      have rT20 := rp_sm s20 rT
      have rH20 := rp_sm s20 rH
      have rS20 := rp_sm s20 rS
      clear N19 hp19 t19 b019 rT rH rS s20
      refine ⟨t20, fun H21 e21 t21 => ?_⟩
      have N21 := N20.ext e21
      have hp21 := hp20.ext e21
      have b021 := b020.trans (ext_t e21)
      have rT21 := rp_ext e21 rT20
      have rH21 := rp_ext e21 rH20
      have rS21 := rp_ext e21 rS20
      have hD21 := hD.ext e21
      clear N20 hp20 t20 b020 rT20 rH20 rS20 hD e21
      refine tt_lead (fun E H' Q' hh => ⟨_, rfl, _, rfl, _, rfl, hh⟩) N21.g.2.1 ok rH21 oH rS21 oS fun la H22 s22 hL => ⟨_, _, rfl, ?_⟩
      have hD22 := hD21.ext (same_ext s22)
      apply cut (H := H22)
      · intro rest
        cases hdue : dueS ns.length (placesS ss as) dH dS with
        | none =>
          rw [hdue] at hL hD22
          obtain ⟨yv, hL⟩ := hL
          replace hD22 : H22 lD = some (.lst []) := hD22
          refine ⟨_, rfl, (show 0 ≤ 1000 by decide), fun e1 Ha na => ⟨lD, e1, [], rfl, rfl, SqL.of (na.2.2 _ _ hD22), SqL.of na.2.1, _, rfl, ?_⟩⟩
          refine Pg.iteBF rfl ?_
          refine ⟨_, rfl, (show 0 ≤ 1000 by decide), fun e2 Hb nb => ⟨lD, e2, [], rfl, rfl, SqL.of (nb.2.2 _ _ (na.2.2 _ _ hD22)), SqL.of nb.2.1, _, rfl, ?_⟩⟩
          refine Pg.iteBT rfl ?_
          have sab := na.2.2.trans nb.2.2
          refine ⟨_, rfl, la, _, 0, _, rfl, rfl, SqL.of (sab _ _ hL), rfl, rfl, _, rfl, ?_⟩
          refine iteNS rfl ?_
          exact rest Hb sab
        | some e =>
          rw [hdue] at hL hD22
          replace hL : H22 la = some (.lst [.str e.1, .str e.2.shown]) := hL
          replace hD22 : H22 lD = some (.lst [.str e.1, .str e.2.shown]) := hD22
          refine ⟨_, rfl, (show 0 ≤ 1000 by decide), fun e1 Ha na => ⟨lD, e1, _, rfl, rfl, SqL.of (na.2.2 _ _ hD22), SqL.of na.2.1, _, rfl, ?_⟩⟩
          refine Pg.iteBT rfl ?_
          refine ⟨_, rfl, _, rfl, twoD e.1 e.2.shown, twoD e.1 e.2.shown, two_at (na.2.2 _ _ hL), two_at (na.2.2 _ _ hD22), two_pl _ _, two_pl _ _, two_dp _ _, _, rfl, ?_⟩
          refine Pg.iteBF (eqv_same (two_pl _ _)) ?_
          refine ⟨_, rfl, (show 0 ≤ 1000 by decide), fun e2 Hb nb => ⟨lD, e2, _, rfl, rfl, SqL.of (nb.2.2 _ _ (na.2.2 _ _ hD22)), SqL.of nb.2.1, _, rfl, ?_⟩⟩
          refine Pg.iteBF rfl ?_
          exact rest Hb (na.2.2.trans nb.2.2)
      intro H23 s2223
      have s23 := s22.trans s2223
      have N23 := N21.same s23
      have hp23 := hp21.same s23
      have t23 := tabs_same t21 s23
      have b023 := b021.trans (ext_t (same_ext s23))
      have rT23 := rp_sm s23 rT21
      have rH23 := rp_sm s23 rH21
      have rS23 := rp_sm s23 rS21
      clear N21 hp21 t21 b021 rT21 rH21 rS21 hD21 hD22 hL s22 s2223 s23
      -- no program
      refine ⟨t23, fun H24 e24 t24 => ?_⟩
      refine tt_leadN (fun E H' Q' hh => ⟨_, rfl, _, rfl, _, rfl, hh⟩) (rp_ext e24 rT23) oT fun lb H25 s25 hb => ?_
      have e25 := e24.trans (same_ext s25)
      refine ⟨_, rfl, vt, dT, rfl, rp_ext e25 rT23, oT.sh, Nat.le_trans oT.dp (by decide), sz1000 oT.len, (show 2 ≤ 1000 by decide), fun lc H26 n26 => ?_⟩
      refine ⟨twoD _ _, twoD _ _, two_at (n26.2.2 _ _ hb), two_at n26.2.1, two_pl _ _, two_pl _ _, two_dp _ _, _, rfl, ?_⟩
      refine Pg.iteBF (eqv_same (two_pl _ _)) ?_
      have e26 := e25.trans (same_ext n26.2.2)
      have N26 := N23.ext e26
      have hp26 := hp23.ext e26
      have t26 := tabs_same t24 (s25.trans n26.2.2)
      have b026 := b023.trans (ext_t e26)
      clear N23 hp23 t23 b023 rT23 rH23 rS23 e24 t24 s25 hb e25 n26 e26
      -- no index
      obtain ⟨zs, hzb, lz⟩ : ∃ zs, SqT K H26 zb zs ∧ zs.length = as.length := by
        obtain ⟨zb', zs, e, h1, h2⟩ := Pg.rp_tup (.inl N26.z)
        cases e
        have l := Pg.dp_len' h2
        rw [List.length_map] at l
        exact ⟨zs, h1, l⟩
      refine ⟨_, rfl, _, rfl, _, rfl, r, _, 2, _, rfl, rfl, SqL.of N26.r, rfl, _, _, rfl, .inr ⟨_, hzb, rfl⟩, (show 1 ≤ 1000 by decide), fun T27 H27 n27 => ⟨_, _, rfl, rfl, ⟨by decide, by decide, by decide⟩, (show 0 ≤ 1000 by decide), fun L28 H28 n28 => ⟨(show 9 ≤ 1000 by decide), fun L29 H29 n29 => ?_⟩⟩⟩
      rw [lz] at n29
      have s2629 := n27.2.2.trans (n28.2.2.trans n29.2.2)
      have hp29 := hp26.same s2629
      have m28 : L28 ≠ p := ((hp26.same n27.2.2).ne n28.1).symm
      have r27 : Rp K (delH H29 p) (.ref T27) (.tuple [.int 0]) := .inl (dp_nl (nl_dels hp29) _ (by decide +kernel) (.tup (SqT.of (n29.2.2 _ _ (n28.2.2 _ _ n27.2.1))) (.cons (.int _) .nil)))
      have r28 : Rp K (delH H29 p) (.ref L28) (.list []) := .inl (.lst (SqL.of ((delH_ne m28).trans (n29.2.2 _ _ n28.2.1))) .nil)
      refine ⟨p, L29, _, rfl, hp29, n29.2.1, (((hp26.same n27.2.2).same n28.2.2).ne n29.1).symm, (show 0 < 9 by decide), (show 9 ≤ 1000 by decide), fun i30 vo H30 ex30 hp30 b30 => ?_⟩
      obtain ⟨dO, rO, oO, xO⟩ : ∃ d, Rp K (delH H30 p) vo d ∧ OkV d ∧ ixB as.length d = false := by
        have sd := same_dels (p := p) b30
        have hm := List.mem_of_getElem? ex30
        simp only [List.mem_cons, List.not_mem_nil, or_false] at hm
        rcases hm with rfl | rfl | rfl | rfl | rfl | rfl | rfl | rfl | rfl
        · exact ⟨_, .inl (.int _), (okV_of (by decide +kernel)).1, rfl⟩
        · exact ⟨_, .inl (.int _), okV_int (by omega), by
            show (decide (0 ≤ (as.length : Int)) && decide ((as.length : Int) < (as.length : Int))) = false
            rw [decide_eq_false (Int.lt_irrefl _), Bool.and_false]⟩
        · exact ⟨.none, .inl .non, (okV_of (by decide +kernel)).1, rfl⟩
        · exact ⟨.bool true, .inl (.bl _), (okV_of (by decide +kernel)).1, rfl⟩
        · exact ⟨.bool false, .inl (.bl _), (okV_of (by decide +kernel)).1, rfl⟩
        · exact ⟨.str "0", .inl (.str _), (okV_of (by decide +kernel)).1, rfl⟩
        · exact ⟨_, rp_sm sd r27, (okV_of (by decide +kernel)).1, rfl⟩
        · exact ⟨_, .inl (.int _), (okV_of (by decide +kernel)).1, by
            have : ¬ ((10 : Int) ^ 39 < (as.length : Int)) := by
              have e : (10 : Int) ^ 39 = 1000000000000000000000000000000000000000 := by decide
              rw [e]
              omega
            exact (by show (decide (0 ≤ ((10 : Int) ^ 39)) && decide (((10 : Int) ^ 39) < (as.length : Int))) = false; rw [decide_eq_false this, Bool.and_false])⟩
        · exact ⟨_, rp_sm sd r28, (okV_of (by decide +kernel)).1, rfl⟩
      have b2630 : But p H26 H30 := (but_same s2629).trans b30
      have N30 := N26.but b2630 hp26 rp spp
      have t30 := tabs_but t26 hp26 b2630
      have b030 := b026.trans b2630.t
      replace rO := rp_sm same_to rO
      clear N26 hp26 t26 b026 b2630 b30 ex30 r27 r28 n27 n28 n29 s2629 hp29 hzb m28
      refine ⟨t30, fun H31 e31 t31 => ?_⟩
      have N31 := N30.ext e31
      have hp31 := hp30.ext e31
      have b031 := b030.trans (ext_t e31)
      have rO31 := rp_ext e31 rO
      clear N30 hp30 t30 b030 rO e31
      obtain ⟨⟨dx31, hl31⟩, _, _⟩ := id N31.g
      refine tt_odd (l := l) (fun E Q' hh => ⟨_, rfl, l, dx31, _, rfl, hl31, pfL_no (by decide +kernel) (by decide +kernel), _, rfl, hh⟩) N31.g ok rO31 oO el0 lx bx (show 1 ≤ 900 by decide) xO fun lb H32 s32 hb => ?_
      refine ⟨_, rfl, vo, dO, rfl, rp_sm s32 rO31, oO.sh, Nat.le_trans oO.dp (by decide), sz1000 oO.len, (show 2 ≤ 1000 by decide), fun lc H33 n33 => ?_⟩
      refine ⟨twoD _ _, twoD _ _, two_at (n33.2.2 _ _ hb), two_at n33.2.1, two_pl _ _, two_pl _ _, two_dp _ _, _, rfl, ?_⟩
      refine Pg.iteBF (eqv_same (two_pl _ _)) ?_
      have s3133 := s32.trans n33.2.2
      have N33 := N31.same s3133
      have hp33 := hp31.same s3133
      have t33 := tabs_same t31 s3133
      have b033 := b031.trans (ext_t (same_ext s3133))
      clear N31 hp31 t31 b031 rO31 s32 hb n33 s3133 hl31
      -- an index
      obtain ⟨zs, hzb, lz⟩ : ∃ zs, SqT K H33 zb zs ∧ zs.length = as.length := by
        obtain ⟨zb', zs, e, h1, h2⟩ := Pg.rp_tup (.inl N33.z)
        cases e
        have l := Pg.dp_len' h2
        rw [List.length_map] at l
        exact ⟨zs, h1, l⟩
      refine ⟨_, rfl, _, rfl, r, _, 2, _, rfl, rfl, SqL.of N33.r, rfl, _, _, rfl, .inr ⟨_, hzb, rfl⟩, p, (zs.length : Int), rfl, hp33, by omega, by omega, fun n H34 n0 n1 hp34 b34 => ?_⟩
      have N34 := N33.but b34 hp33 rp spp
      have t34 := tabs_but t33 hp33 b34
      have b034 := b033.trans b34.t
      obtain ⟨n5, rfl⟩ := Int.eq_ofNat_of_zero_le n0
      have hn5 : n5 < as.length := by omega
      clear N33 hp33 t33 b033 b34 hzb
      obtain ⟨⟨dx34, hl34⟩, _, _⟩ := id N34.g
      refine ⟨_, rfl, l, dx34, _, rfl, hl34, l, x, h, ns, ss, as, _, _, rfl, N34.g, ok, el0, lx, bx, fun vf H35 s35 hvf => ?_⟩
      refine ⟨(show 2 ≤ 1000 by decide), fun T36 H36 n36 => ⟨T36, _, rfl, SqT.of n36.2.1, rfl, _, _, rfl, _, _, rfl, rfl, ?_⟩⟩
      have s3436 := s35.trans n36.2.2
      have N36 := N34.same s3436
      have hp36 := hp34.same s3436
      have t36 := tabs_same t34 s3436
      have b036 := b034.trans (ext_t (same_ext s3436))
      have hvf36 := dp_same n36.2.2 _ hvf
      clear N34 hp34 t34 b034 s35 n36 s3436 hvf hl34
      obtain ⟨a, ea⟩ : ∃ a, as[n5]? = some a := ⟨_, List.getElem?_eq_getElem hn5⟩
      have rh := ready_has (z := z') (xs := xs') ea
      refine ⟨t36, fun H37 e37 t37 => ?_⟩
      have N37 := N36.ext e37
      have hp37 := hp36.ext e37
      have b037 := b036.trans (ext_t e37)
      have hvf37 := dp_ext e37 _ hvf36
      clear N36 hp36 t36 b036 hvf36 e37
      obtain ⟨fa, fws, rfl, hfa, hfw⟩ := Pg.rp_tup (.inl hvf37)
      have efw : fws = (readyS as z' xs' as.length).map fun k : Nat => V.int (k : Int) := by
        refine Pg.list_is (by have := Pg.dp_len' hfw; rw [List.length_map] at this; exact this) fun j y ey => ?_
        obtain ⟨q, eq, hq⟩ := Pg.map_at hfw ey
        cases hq
        exact ⟨q, eq, rfl⟩
      subst efw
      clear hvf37 hfw
      obtain ⟨⟨dx37, hl37⟩, _, _⟩ := id N37.g
      refine tt_at (l := l) (fun E Q' hh => ⟨_, rfl, l, dx37, _, rfl, hl37, pfL_no (by decide +kernel) (by decide +kernel), _, rfl, hh⟩) N37.g ok ea el0 lx bx (show 1 ≤ 900 by decide) (fun hf la vb H38 H39 f38 b38 g38 s39 hL => ?_) (fun hf la H39 s39 hL => ?_)
      · have N38 := N37.step f38 b38 g38
        have hp38 := N37.pail hp37 b38
        have t38 := N37.tabs t37 b38
        have b038 := but_h nhH b037 b38
        have hfa38 : SqT K H38 fa ((readyS as z' xs' as.length).map fun k : Nat => V.int (k : Int)) := Pg.seqT_fh f38 hfa
        have N39 := N38.same s39
        have hp39 := hp38.same s39
        have t39 := tabs_same t38 s39
        have b039 := b038.trans (ext_t (same_ext s39))
        have hfa39 := Same.seqT s39 hfa38
        clear N37 hp37 t37 b037 hfa N38 hp38 t38 b038 hfa38 hl37 s39 f38 b38 g38
        refine ⟨_, rfl, la, _, 0, _, rfl, rfl, SqL.of hL, rfl, rfl, _, rfl, _, rfl, fa, _, rfl, .inr hfa39, rfl, flat_ints _, rfl, _, rfl, ?_⟩
        refine Pg.iteBF (by rw [if_neg Bool.false_ne_true, inV_ints, rh, hf]; first | rfl | decide +kernel | simp) ?_
        refine ⟨_, rfl, la, _, 0, _, rfl, rfl, SqL.of hL, rfl, rfl, _, rfl, ?_⟩
        refine iteNS rfl ?_
        refine ⟨_, rfl, la, _, 0, _, rfl, rfl, SqL.of hL, rfl, rfl, _, rfl, ?_⟩
        refine Pg.iteDY rfl ?_
        obtain ⟨⟨dx39, hl39⟩, _, _⟩ := id N39.g
        refine ⟨_, rfl, l, dx39, _, rfl, hl39, pfL_no (by decide +kernel) (by decide +kernel), l, x, h, ns, ss, as, _, rfl, N39.g, (show 2 ≤ 900 by decide), (fun q => absurd q (show ¬ (2 = 1) by decide)), (fun _ H40 f40 b40 g40 => ⟨_, rfl, ?_⟩)⟩
        refine Pg.iteBF rfl ?_
        have N40 : Nv K C CH CL H40 l x r h spl (.ref ub) v (.ref zb) ns ss as [(none, z', xs')] := N39.step f40 b40 g40
        have hp40 := N39.pail hp39 b40
        have t40 := N39.tabs t39 b40
        have b040 := but_h nhH b039 b40
        clear N39 hp39 t39 b039 hfa39 hL hl39 f40 b40 g40
        obtain ⟨⟨dxl, hlS⟩, _, _⟩ := id N40.g
        refine ⟨_, rfl, l, dxl, _, rfl, hlS, l, x, h, ns, ss, as, _, (none, z', xs'), rfl, N40.g, rfl, ?_⟩
        refine ⟨_, rfl, l, dxl, _, rfl, hlS, l, x, h, ns, ss, as, _, (none, z', xs'), rfl, N40.g, rfl, fun v1 hv1 => ?_⟩
        refine ⟨_, rfl, l, dxl, _, rfl, hlS, l, x, h, ns, ss, as, _, rfl, N40.g, (show 1 ≤ 900 by decide), fun v2 Hs1 s1 hv2 => ?_⟩
        refine ⟨_, rfl, l, dxl, _, rfl, s1 _ _ hlS, l, x, h, ns, ss, as, _, (none, z', xs'), rfl, N40.g.same s1, ok, rfl, lx, bx, fun v3 Hs2 s2 hv3 => ?_⟩
        refine ⟨_, rfl, l, dxl, _, rfl, (s1.trans s2) _ _ hlS, l, x, h, ns, ss, as, _, rfl, N40.g.same (s1.trans s2), (show 1 ≤ 900 by decide), fun Hs3 s3 => ⟨(show 5 ≤ 1000 by decide), fun GL Hs4 n4 => ?_⟩⟩
        have hG : Dp K Hs4 (.ref GL) (.list (bareD as (none, z', xs'))) := by
          refine .lst (SqL.of n4.2.1) (.cons (.str _) (.cons ?_ (.cons ?_ (.cons ?_ (.cons ?_ .nil)))))
          · exact dp_same (s1.trans (s2.trans (s3.trans n4.2.2))) _ hv1
          · exact dp_same (s2.trans (s3.trans n4.2.2)) _ hv2
          · exact dp_same (s3.trans n4.2.2) _ hv3
          · exact Pg.dp_ixV _
        refine ⟨.ref GL, .list (bareD as (none, z', xs')), rfl, .inl hG, SHB.sh, Nat.le_trans SHB.dp (by decide), big SHB.len, ?_⟩
        refine ⟨_, rfl, rfl, _, rfl, ?_⟩
        refine iteNS rfl ?_
        have sE := s1.trans (s2.trans (s3.trans n4.2.2))
        exact ⟨_, _, _, _, _, _, _, _, _, _, rfl, hp40.same sE, b040.trans (ext_t (same_ext sE)), tabs_same t40 sE, N40.same sE⟩
      · have N39 := N37.same s39
        have hp39 := hp37.same s39
        have t39 := tabs_same t37 s39
        have b039 := b037.trans (ext_t (same_ext s39))
        have hfa39 := Same.seqT s39 hfa
        clear N37 hp37 t37 b037 hfa hl37 s39
        refine ⟨_, rfl, la, _, 0, _, rfl, rfl, SqL.of hL, rfl, rfl, _, rfl, _, rfl, fa, _, rfl, .inr hfa39, rfl, flat_ints _, rfl, _, rfl, ?_⟩
        refine Pg.iteBF (by rw [if_neg Bool.false_ne_true, inV_ints, rh, hf]; first | rfl | decide +kernel | simp) ?_
        refine ⟨_, rfl, la, _, 0, _, rfl, rfl, SqL.of hL, rfl, rfl, _, rfl, ?_⟩
        refine Pg.iteBT (by decide +kernel) ?_
        refine ⟨_, rfl, _, rfl, _, rfl, num_log (by omega), (show 2 ≤ 1000 by decide), fun lc H40 n40 => ?_⟩
        refine ⟨twoD _ _, twoD _ _, two_at (n40.2.2 _ _ hL), two_at n40.2.1, two_pl _ _, two_pl _ _, two_dp _ _, _, rfl, ?_⟩
        refine Pg.iteBF (eqv_same (two_pl _ _)) ?_
        refine ⟨_, rfl, la, _, 0, _, rfl, rfl, SqL.of (n40.2.2 _ _ hL), rfl, rfl, _, rfl, ?_⟩
        refine Pg.iteDN (fun q => absurd (show ("Stuck" : Str) = "back" from V.str.inj q) (by decide)) ?_
        have N40 := N39.same n40.2.2
        have hp40 := hp39.same n40.2.2
        have t40 := tabs_same t39 n40.2.2
        have b040 := b039.trans (ext_t (same_ext n40.2.2))
        clear N39 hp39 t39 b039 hfa39 hL n40
        obtain ⟨⟨dxl, hlS⟩, _, _⟩ := id N40.g
        refine ⟨_, rfl, l, dxl, _, rfl, hlS, l, x, h, ns, ss, as, _, (none, z', xs'), rfl, N40.g, rfl, ?_⟩
        refine ⟨_, rfl, l, dxl, _, rfl, hlS, l, x, h, ns, ss, as, _, (none, z', xs'), rfl, N40.g, rfl, fun v1 hv1 => ?_⟩
        refine ⟨_, rfl, l, dxl, _, rfl, hlS, l, x, h, ns, ss, as, _, rfl, N40.g, (show 1 ≤ 900 by decide), fun v2 Hs1 s1 hv2 => ?_⟩
        refine ⟨_, rfl, l, dxl, _, rfl, s1 _ _ hlS, l, x, h, ns, ss, as, _, (none, z', xs'), rfl, N40.g.same s1, ok, rfl, lx, bx, fun v3 Hs2 s2 hv3 => ?_⟩
        refine ⟨_, rfl, l, dxl, _, rfl, (s1.trans s2) _ _ hlS, l, x, h, ns, ss, as, _, rfl, N40.g.same (s1.trans s2), (show 1 ≤ 900 by decide), fun Hs3 s3 => ⟨(show 5 ≤ 1000 by decide), fun GL Hs4 n4 => ?_⟩⟩
        have hG : Dp K Hs4 (.ref GL) (.list (bareD as (none, z', xs'))) := by
          refine .lst (SqL.of n4.2.1) (.cons (.str _) (.cons ?_ (.cons ?_ (.cons ?_ (.cons ?_ .nil)))))
          · exact dp_same (s1.trans (s2.trans (s3.trans n4.2.2))) _ hv1
          · exact dp_same (s2.trans (s3.trans n4.2.2)) _ hv2
          · exact dp_same (s3.trans n4.2.2) _ hv3
          · exact Pg.dp_ixV _
        refine ⟨.ref GL, .list (bareD as (none, z', xs')), rfl, .inl hG, SHB.sh, Nat.le_trans SHB.dp (by decide), big SHB.len, ?_⟩
        refine ⟨_, rfl, rfl, _, rfl, ?_⟩
        refine iteNS rfl ?_
        have sE := s1.trans (s2.trans (s3.trans n4.2.2))
        exact ⟨_, _, _, _, _, _, _, _, _, _, rfl, hp40.same sE, b040.trans (ext_t (same_ext sE)), tabs_same t40 sE, N40.same sE⟩
    · clear N14 hp14 t14 b014
      rintro σ H1 ⟨y7, y8, y9, y10, y11, y12, y13, y14, y15, y16, rfl, hp1, b1, t1, N1⟩
      refine ⟨t1, fun H2 e2 t2 => ?_⟩
      have N2 := N1.ext e2
      obtain ⟨⟨dx2, hl2⟩, _, _⟩ := id N2.g
      refine tt_none (l := l) (fun E Q' hh => ⟨_, rfl, l, dx2, _, rfl, hl2, pfL_no (by decide +kernel) (by decide +kernel), hh⟩) N2.g rfl fun la H3 s3 hL => ?_
      refine ⟨(show 2 ≤ 1000 by decide), fun lb H4 n4 => ?_⟩
      refine ⟨twoD _ _, twoD _ _, two_at (n4.2.2 _ _ hL), two_at n4.2.1, two_pl _ _, two_pl _ _, two_dp _ _, ?_⟩
      rw [SeqAt.eqv_refl_plain _ (two_pl _ _)]
      have e24 := e2.trans (same_ext (s3.trans n4.2.2))
      exact k H4 (b1.trans (ext_t e24)) (tabs_same t2 (s3.trans n4.2.2))
end
end K5
set_option Elab.async false
set_option linter.all false
set_option maxRecDepth 100000
set_option maxHeartbeats 8000000
namespace K5
open PySem PySem.Spec PyProof.Rows L2 Gd Rl LamX
open Pg (Mo)
abbrev sLaw : Stmt := top 82
structure Bl3 (mg : Str → Option Value) : Prop where
  max : mg "max" = none
  min : mg "min" = none
def spLaw (K : PySem.W.Frag) (T : List (Addr × Str)) : Sp := fun vs H Q _ => ∃ (a : Addr) (ns : List Int), vs = [.ref a] ∧ SqL K H a (ns.map V.int) ∧ ns.length ≤ 63 ∧ (∀ z ∈ ns, Builtin.Int.intBits z ≤ 1048576) ∧ Tabs T H ∧ ∀ H', Q (.bl true) H'
abbrev nLaw : List Str := ["_law_script", "_law_turn_here"]
theorem scLaw : FnScope nLaw ["_law_script"] (defScope sLaw) := ⟨rfl, rfl, rfl, by decide +kernel, rfl, by decide +kernel, by decide +kernel⟩
section
variable {P : Program} {w : World} {K : PySem.W.Frag} {mg : Str → Option Value} {base : Heap} {f : Addr} {fd : FuncData} {T : List (Addr × Str)}
theorem ok_law {fG fR : Addr} {dG dR : FuncData} (F : FnP K "law" sLaw f fd) (TB : Bl mg) (Rg : RangeB mg) (M0 : Mo mg) (U : Bl3 mg)
    (FG : FnP K "_law_begun" sBegun fG dG) (gG : mg "_law_begun" = some (.ref fG)) (FR : FnP K "_law_right" sRight fR dR) (gR : mg "_law_right" = some (.ref fR)) (GR : FnG P w K mg base 11 fR dR ["_law_pail"] (spRight T)) : FnG P w K mg base 12 f fd ["_law_script"] (spLaw K T) := by
  have GG : FnOk P w K mg base CX0 1 fG dG ["_law_script", "_law_turn_here"] (spBegun K) := ok_begun FG TB
  have bG : Binds K dG ["_law_script", "_law_turn_here"] [] := FG.bindsN fun _ _ _ _ _ _ us hl => match us, hl with | [_, _], _ => rfl
  have bR : Binds K dR ["_law_pail"] [] := FR.bindsN fun _ _ _ _ _ _ us hl => match us, hl with | [_], _ => rfl
  refine okG F scLaw (fun vs H Q E h => ?_) (fun cdv A outer s H vs Q E hgd hr h => ?_)
  · obtain ⟨a, ns, rfl, _⟩ := h
    rfl
  · obtain ⟨a, ns, rfl, hS, hn, hb, hT, k1⟩ := h
    have hr1 := hr.mono (show 1 ≤ 11 by decide)
    refine ⟨_, PSs.nox <| pss_one (ps_ret (pe_callB (cr_all rfl) (by rfl) M0.all (by decide +kernel) (pa_cons (pe_lc (own := [("_law_turn_here", 1)]) (g := gName 1) (tt := tYes) rfl scLaw.nd
          (pi_range1 (by rfl) Rg.range (pa_cons (pe_callB (call_max2 rfl) (by rfl) U.max (by decide +kernel) (pa_cons pe_int (pa_cons (pe_callB (call_min2 rfl) (by rfl) U.min (by decide +kernel) (pa_cons (pe_callB call_len (by rfl) M0.len PySem.boot_len (pa_cons (pv 0) pa_nil)) (pa_cons pe_int pa_nil))) pa_nil))) pa_nil))
          (blkOk_by (N := nLaw) (sc := defScope sLaw) (by decide +kernel)) (fun _ _ _ _ _ => pg_name (i := 1) scLaw.nd rfl (Or.inl rfl)) (fun _ _ _ _ _ => pts_nil)
          (fun _ _ _ _ _ => pe_callG GR hgd hr (by rfl) gR FR.kp bR (pa_cons (pe_call GG hr1 (by rfl) gG FG.kp bG .nil pass0 (pa_cons (pv 0) (pa_cons (pv 1) pa_nil))) pa_nil))) pa_nil))), ?_⟩
    refine ⟨_, rfl, _, (ns.map V.int).length, rfl, .inl ⟨_, hS, rfl⟩, _, _, rfl, _, _, rfl, ?_⟩
    generalize hM : (if (if (5 : Int) < ((ns.map V.int).length : Int) then (5 : Int) else ((ns.map V.int).length : Int)) > 2 then (if (5 : Int) < ((ns.map V.int).length : Int) then (5 : Int) else ((ns.map V.int).length : Int)) else 2) = M
    have m0 : 0 ≤ M ∧ M ≤ 5 := by
      rw [← hM]
      split <;> split <;> omega
    refine ⟨M, rfl, by omega, by omega, fun D hD => lc_range (lo := 0) (n := M.toNat) (fun i H' => ExtN H H' ∧ H' D = some (.lst (List.replicate i (V.bl true))) ∧ Tabs T H') ⟨same_ext (same_new hD), upd_same, tabs_same hT (same_new hD)⟩ ?_ ?_⟩
    · rintro i H' hi ⟨sx, hd, ht⟩
      refine ⟨rfl, ?_⟩
      refine ⟨_, rfl, _, rfl, a, ns, i, (by rw [Int.zero_add]; rfl), seqL_ext sx hS, hn, hb, by omega, fun p Hp sp np pp => ?_⟩
      refine ⟨p, rfl, pp, tabs_same ht sp, fun Hq bt tq => ?_⟩
      have hd2 : Hq D = some (.lst (List.replicate i (V.bl true))) := bt D _ (sp _ _ hd) (ne_of_none hd np) fun _ q => nomatch q
      refine ⟨_, hd2, (by rw [List.length_replicate]; exact small1000 (by omega)), fun b u e t => ?_, ?_, tabs_upd tq hd2⟩
      · rw [upd_ne (ne_of_none e hD)]
        exact bt b u (sp _ _ (sx _ _ e t)) (ne_of_none (sx _ _ e t) np) t
      · rw [upd_same, List.replicate_succ']
    · rintro H' ⟨sx, hd, ht⟩
      have hd2 : H' D = some (.lst ((List.replicate M.toNat true).map V.bl)) := by
        rw [List.map_replicate]
        exact hd
      refine ⟨D, _, rfl, SqL.of hd2, ?_⟩
      rw [show (List.replicate M.toNat true).all id = true by simp]
      exact k1 H'
end
end K5
set_option Elab.async false
set_option linter.all false
set_option maxRecDepth 100000
set_option maxHeartbeats 0
namespace K5
open PySem PySem.Spec PyProof.Rows L2 Gd Rl
theorem facts {w : World} {K : PySem.W.Frag} {h : Heap} {mg : Str → Option Value} {f : Addr} (X : K.In h) (G : h.Ns mainGlobals mg) (hfa : mg ("law" : Str) = some (.ref f)) (cc : SaysK K) :
    ∃ fd : FuncData, (∀ (s : Shared) (v : Value), BindsTo s fd ⟨[v], []⟩ [("_law_script", v)]) ∧ ∀ base : Heap, K.In base → base.Ns mainGlobals mg → (∀ p ∈ tf, LamX.TabB base mg (He.cT K p).1 (He.cT K p).2) → FnG (PySem.Challenge.rw_fallranks_k56_errors_of_leads).prog w K mg base 12 f fd ["_law_script"] (spLaw K [((He.cT K ("_law_right", none)).2, lamQ)]) := by
  have c : He.SaysD fa fn K := congrArg (fun z : AlK => z.1) cc
  have c2 : exB K = true := congrArg (fun z : AlK => z.2.1) cc
  have c3 : gl.map (fun g => Hx.seenF K (g.1 K)) = gl.map fun g => Hx.saidF g.2.1 g.2.2.1 g.2.2.2 := congrArg (fun z : AlK => z.2.2.1) cc
  have c4 : (el.map (fun e => Hz.fnI K (Hz.eI K e.1)) ++ el0.map fun e => Hz.fnI K (Hz.eI K e.1)) = (el.map (fun e => Hz.fnV e.2.2.2) ++ el0.map fun e => Hz.fnV e.2.2) := congrArg (fun z : AlK => z.2.2.2) cc
  obtain ⟨y0, c2⟩ := Bool.and_eq_true_iff.mp c2
  obtain ⟨y0, y4⟩ := Bool.and_eq_true_iff.mp y0
  obtain ⟨y1, y2⟩ := Bool.and_eq_true_iff.mp y0
  obtain ⟨y3, y4⟩ := Bool.and_eq_true_iff.mp y4
  obtain ⟨x1, c2⟩ := Bool.and_eq_true_iff.mp c2
  obtain ⟨x2, c2⟩ := Bool.and_eq_true_iff.mp c2
  obtain ⟨x3, c2⟩ := Bool.and_eq_true_iff.mp c2
  obtain ⟨x4, x5⟩ := Bool.and_eq_true_iff.mp c2
  have prp : ∀ f ∈ (["names", "branches", "places"] : List Str), PropOf K (cP K) f (He.ma K (cP K) f) (gAt f K) := fun f hf => Hx.propB_ok (List.all_eq_true.mp x1 f hf)
  have get : ∀ (i : Nat) (g : (PySem.W.Frag → Addr) × Str × Str × Stmt), gl[i]? = some g → ∃ z, FunD K g.2.1 g.2.2.1 (defArgs g.2.2.2) (defBody g.2.2.2) (defScope g.2.2.2) [] [] (g.1 K) z := fun i g e => by
    have e2 := congrArg (fun l => l[i]?) c3
    simp only [List.getElem?_map, e, Option.map_some, Option.some.injEq] at e2
    exact Hx.funF e2 (List.all_eq_true.mp x4 g (List.mem_of_getElem? e))
  have free : ∀ (i : Nat) (x : Str), fa[i]? = some (.free x) → mg x = none := fun i x e => He.free_ok X G (c.fact i (f := .free x) e)
  have glo : ∀ (i : Nat) (x : Str), fa[i]? = some (.glo x) → mg x = some (.ref (He.ga K x)) := fun i x e => He.glo_ok X G (c.fact i (f := .glo x) e)
  have noat : ∀ (i : Nat) (x : Str), fa[i]? = some (.noat "Program" x) → NoAttr K (cP K) x := fun i x e => He.noat_ok (c.fact i (f := .noat "Program" x) e)
  have dun : ∀ (i : Nat) (x : Str), fa[i]? = some (.meth "Program" x) → Ow.Dun K (cP K) x (He.ma K (cP K) x) := fun i x e => by
    have z := c.fact i (f := .meth "Program" x) e
    obtain ⟨z1, z⟩ := Bool.and_eq_true_iff.mp z
    obtain ⟨z2, z3⟩ := Bool.and_eq_true_iff.mp z
    exact ⟨He.eqO_ok z1, z2⟩
  have dunC : ∀ (C x : Str), (He.Fa.meth C x).ok K = true → Ow.Dun K (He.ga K C) x (He.ma K (He.ga K C) x) := fun C x z => by
    obtain ⟨z1, z⟩ := Bool.and_eq_true_iff.mp z
    obtain ⟨z2, z3⟩ := Bool.and_eq_true_iff.mp z
    exact ⟨He.eqO_ok z1, z2⟩
  obtain ⟨d0, F0⟩ := c.def_ 0 (d := dd "is_integer" Pg.sInt) rfl
  obtain ⟨d1, F1⟩ := c.def_ 1 (d := dd "is_name" Pg.sName) rfl
  obtain ⟨d2, F2⟩ := c.def_ 2 (d := dd "are_integers" Pg.sInts) rfl
  obtain ⟨d3, F3⟩ := c.def_ 3 (d := dd "is_form" Pg.sForm) rfl
  obtain ⟨d4, F4⟩ := c.def_ 4 (d := dd "are_forms" Pg.sForms) rfl
  obtain ⟨d5, F5⟩ := c.def_ 5 (d := dd "is_numeral" Pg.sNu) rfl
  obtain ⟨d6, F6⟩ := c.def_ 6 (d := dd "_check_names" Pg.sCN) rfl
  obtain ⟨d7, F7⟩ := c.def_ 7 (d := dd "_check_sayings" Pg.sCS) rfl
  obtain ⟨d8, F8⟩ := c.def_ 8 (d := dd "_check_branches" Pg.sCB) rfl
  obtain ⟨d9, F9⟩ := c.def_ 9 (d := dd "_is_saying" Pg.sSay) rfl
  obtain ⟨d10, F10⟩ := c.def_ 10 (d := dd "_is_branch" Pg.sBr) rfl
  obtain ⟨d11, F11⟩ := c.def_ 11 (d := dd "_places_of" Pg.sPl) rfl
  obtain ⟨d12, F12⟩ := c.def_ 12 (d := dd "_text_of" Pg.sTx) rfl
  obtain ⟨d13, F13⟩ := c.def_ 13 (d := dd "_words_of" Pg.sWd) rfl
  obtain ⟨d14, F14⟩ := c.def_ 14 (d := dd "_parts_of" Pg.sPa) rfl
  obtain ⟨d15, F15⟩ := c.def_ 15 (d := dd "_form_of" Pg.sFo) rfl
  obtain ⟨d16, F16⟩ := c.def_ 16 (d := dd "_law_begun" sBegun) rfl
  obtain ⟨d17, F17⟩ := c.def_ 17 (d := dd "_law_cast" sCast) rfl
  obtain ⟨d18, F18⟩ := c.def_ 18 (d := dd "_law_any_of" sAny) rfl
  obtain ⟨d19, F19⟩ := c.def_ 19 (d := dd "_law_tags" sTags) rfl
  obtain ⟨d20, F20⟩ := c.def_ 20 (d := dd "_law_words" Pg.sLw) rfl
  obtain ⟨d21, F21⟩ := c.def_ 21 (d := dd "_law_arm_lines" Pg.sLa) rfl
  obtain ⟨d22, F22⟩ := c.def_ 22 (d := dd "_law_lines" Pg.sLl) rfl
  obtain ⟨d23, F23⟩ := c.def_ 23 (d := dd "_law_sheet" Pg.sLs) rfl
  obtain ⟨d24, F24⟩ := c.def_ 24 (d := dd "is_index" Pg.sIx) rfl
  obtain ⟨d25, F25⟩ := c.def_ 25 (d := dd "check_program" Pg.sCg) rfl
  obtain ⟨d26, F26⟩ := c.def_ 26 (d := dd "check_index" Pg.sCk) rfl
  obtain ⟨d27, F27⟩ := c.def_ 27 (d := dd "check_place" Pg.sCl) rfl
  obtain ⟨d28, F28⟩ := c.def_ 28 (d := dd "check_point" Pg.sCo) rfl
  obtain ⟨d29, F29⟩ := c.def_ 29 (d := dd "weighed" Pg.sWei) rfl
  obtain ⟨d30, F30⟩ := c.def_ 30 (d := dd "value_at" Pg.sVal) rfl
  obtain ⟨d31, F31⟩ := c.def_ 31 (d := dd "fits" Pg.sFi) rfl
  obtain ⟨d32, F32⟩ := c.def_ 32 (d := dd "state_behind" Pg.sBe) rfl
  obtain ⟨d33, F33⟩ := c.def_ 33 (d := dd "_law_spots" Pg.sSp) rfl
  obtain ⟨d34, F34⟩ := c.def_ 34 (d := dd "_law_unit" sUnit) rfl
  obtain ⟨d35, F35⟩ := c.def_ 35 (d := dd "_law_shift" sShift) rfl
  obtain ⟨d36, F36⟩ := c.def_ 36 (d := dd "_law_little" sLittle) rfl
  obtain ⟨d37, F37⟩ := c.def_ 37 (d := dd "_law_ask" sAsk) rfl
  obtain ⟨d38, F38⟩ := c.def_ 38 (d := dd "_law_turn" sTurn) rfl
  obtain ⟨d39, F39⟩ := c.def_ 39 (d := dd "_law_arm" sArm) rfl
  obtain ⟨d40, F40⟩ := c.def_ 40 (d := dd "_law_small" sSmall) rfl
  obtain ⟨d41, F41⟩ := c.def_ 41 (d := dd "_law_built" sBuilt) rfl
  obtain ⟨d42, F42⟩ := c.def_ 42 (d := dd "_law_answer" sAns) rfl
  obtain ⟨d43, F43⟩ := c.def_ 43 (d := dd "_law_spot" sSpot) rfl
  obtain ⟨d44, F44⟩ := c.def_ 44 (d := dd "_law_thing" sThing) rfl
  obtain ⟨d45, F45⟩ := c.def_ 45 (d := dd "_law_is_whole" sWhole) rfl
  obtain ⟨d46, F46⟩ := c.def_ 46 (d := dd "_law_due" sDue) rfl
  obtain ⟨d47, F47⟩ := c.def_ 47 (d := dd "_law_sort" sSort) rfl
  obtain ⟨d48, F48⟩ := c.def_ 48 (d := dd "_law_right" sRight) rfl
  obtain ⟨d49, F49⟩ := c.def_ 49 (d := dd "law" sLaw) rfl
  obtain ⟨d50, F50⟩ := c.def_ 50 (d := dm "__init__" "Program.__init__" Pg.sIni) rfl
  obtain ⟨d51, F51⟩ := c.def_ 51 (d := dm "__str__" "Program.__str__" Pg.sStr) rfl
  obtain ⟨d52, F52⟩ := c.def_ 52 (d := dc "History" "__init__" "History.__init__" Pg.sHi) rfl
  obtain ⟨d53, F53⟩ := c.def_ 53 (d := dc "History" "present" "History.present" Pg.sHp) rfl
  obtain ⟨d54, F54⟩ := c.def_ 54 (d := dc "History" "change" "History.change" Pg.sHc) rfl
  obtain ⟨d55, F55⟩ := c.def_ 55 (d := dc "History" "back" "History.back" Pg.sHb) rfl
  obtain ⟨d56, F56⟩ := c.def_ 56 (d := dc "Lead" "__init__" "Lead.__init__" Pg.sLi) rfl
  obtain ⟨d57, F57⟩ := c.def_ 57 (d := dc "Lead" "take" "Lead.take" Pg.sLt) rfl
  obtain ⟨d58, F58⟩ := c.def_ 58 (d := dc "Lead" "undo" "Lead.undo" Pg.sLu) rfl
  obtain ⟨e0, E0⟩ := get 0 (gAt "names", "names", "Program.names", Pg.sGn) rfl
  obtain ⟨e1, E1⟩ := get 1 (gAt "branches", "branches", "Program.branches", Pg.sGb) rfl
  obtain ⟨e2, E2⟩ := get 2 (gAt "places", "places", "Program.places", Pg.sGp) rfl
  obtain ⟨e3, E3⟩ := get 3 (rAt, "read", "Program.read", Pg.sRd) rfl
  obtain ⟨e4, E4⟩ := get 4 (gAtC "Lead" "place", "place", "Lead.place", Pg.sLpl) rfl
  obtain ⟨e5, E5⟩ := get 5 (gAtC "Lead" "point", "point", "Lead.point", Pg.sLpo) rfl
  obtain ⟨e6, E6⟩ := get 6 (gAtC "Lead" "taken", "taken", "Lead.taken", Pg.sLta) rfl
  obtain ⟨e7, E7⟩ := get 7 (gAtC "Lead" "ready", "ready", "Lead.ready", Pg.sLre) rfl
  obtain ⟨e8, E8⟩ := get 8 (gAtC "Lead" "again", "again", "Lead.again", Pg.sLag) rfl
  have ee := hfa.symm.trans (glo 49 "law" rfl)
  cases ee
  have b := FunD.bindsA (ps := ["_law_script"]) F49 fun _ _ _ _ _ _ us hl => match us, hl with | [_], _ => rfl
  have M0 : Pg.Mo mg := ⟨(free 55 "isinstance" rfl), (free 53 "int" rfl), (free 56 "bool" rfl), (free 57 "str" rfl), (free 58 "tuple" rfl), (free 51 "len" rfl), (free 59 "all" rfl), (free 60 "enumerate" rfl), (He.int_ok X G (c.fact 72 (f := .int "LONGEST_NAME" 8) rfl)), (He.str_ok X G (c.fact 79 (f := .str "LETTERS" Pg.letS) rfl)), (He.str_ok X G (c.fact 80 (f := .str "FIGURES" Pg.figS) rfl)), (He.int_ok X G (c.fact 73 (f := .int "MOST_NUMBER" 1000000) rfl)), (He.int_ok X G (c.fact 74 (f := .int "MOST_VARIABLES" 3) rfl)), (He.int_ok X G (c.fact 75 (f := .int "MOST_PLACES" 3) rfl)), (He.int_ok X G (c.fact 76 (f := .int "MOST_BRANCHES" 5) rfl)), (He.int_ok X G (c.fact 77 (f := .int "MOST_TESTS" 3) rfl)), (He.int_ok X G (c.fact 78 (f := .int "MOST_SAYINGS" 3) rfl))⟩
  have T1 : Bl mg := ⟨(free 51 "len" rfl), (free 52 "divmod" rfl), (free 53 "int" rfl), (free 54 "abs" rfl)⟩
  have Rg : RangeB mg := ⟨(free 61 "range" rfl), (free 58 "tuple" rfl)⟩
  have gP : mg "Program" = some (.ref (cP K)) := glo 50 "Program" rfl
  have XT : Pg.Txt K mg (cP K) := ⟨He.cls_ok (c.fact 81 (f := .cls "Program") rfl), noat 82 "_names" rfl, noat 83 "_sayings" rfl, noat 84 "_branches" rfl, noat 85 "_places" rfl, noat 86 "_text" rfl, gP⟩
  have J : Pg.Js K mg _ _ _ _ _ _ _ _ := ⟨F0, F1, F3, F4, (glo 0 "is_integer" rfl), (glo 1 "is_name" rfl), (glo 3 "is_form" rfl), (glo 4 "are_forms" rfl), ⟨_, _, F2, (glo 2 "are_integers" rfl)⟩⟩
  have D : Pg.Defs K mg _ _ _ _ _ _ _ _ _ _ _ _ _ _ _ _ _ _ _ _ _ _ _ _ _ _ _ _ _ _ := ⟨J, F5, F6, F7, F8, F9, F10, F11, F12, F13, F14, F15, (glo 5 "is_numeral" rfl), (glo 6 "_check_names" rfl), (glo 7 "_check_sayings" rfl), (glo 8 "_check_branches" rfl), (glo 9 "_is_saying" rfl), (glo 10 "_is_branch" rfl), (glo 11 "_places_of" rfl), (glo 12 "_text_of" rfl), (glo 13 "_words_of" rfl), (glo 14 "_parts_of" rfl), (glo 15 "_form_of" rfl)⟩
  have M : Pg.Mkr K (cP K) _ _ _ _ := ⟨He.mkr_ok (c.fact 88 (f := .mkr "Program") rfl), F50, F51, dun 87 "__str__" rfl⟩
  have Z : Rdr K (cP K) _ _ _ _ := ⟨Hx.readB_ok x3, Hx.cmB_ok x2, E3⟩
  have L : Tx K mg _ _ _ _ _ _ _ _ := ⟨F20, F21, F22, F23, (glo 20 "_law_words" rfl), (glo 21 "_law_arm_lines" rfl), (glo 22 "_law_lines" rfl), (glo 23 "_law_sheet" rfl)⟩
  have su : mg "super" = none := (free 65 "super" rfl)
  have bas := fun r hr => Hz.base_ok (mg := mg) X G y1 r hr
  have er0 : Hz.Err (PySem.Challenge.rw_fallranks_k56_errors_of_leads).prog K mg "InvalidIndex" "given" 0 := Hz.err_ok (st := eSt0) (by kernel_rfl) (by kernel_rfl) X G su (.inl rfl) (List.all_eq_true.mp y2 ("InvalidIndex", "given", 0, eSt0) (by simp [el])) (by have e2 := congrArg (fun l => l[0]?) c4; simpa [el, el0] using e2) eTx0
  have er1 : Hz.Err (PySem.Challenge.rw_fallranks_k56_errors_of_leads).prog K mg "InvalidPlace" "given" 0 := Hz.err_ok (st := eSt1) (by kernel_rfl) (by kernel_rfl) X G su (.inl rfl) (List.all_eq_true.mp y2 ("InvalidPlace", "given", 0, eSt1) (by simp [el])) (by have e2 := congrArg (fun l => l[1]?) c4; simpa [el, el0] using e2) eTx1
  have er2 : Hz.Err (PySem.Challenge.rw_fallranks_k56_errors_of_leads).prog K mg "InvalidPoint" "given" 0 := Hz.err_ok (st := eSt2) (by kernel_rfl) (by kernel_rfl) X G su (.inl rfl) (List.all_eq_true.mp y2 ("InvalidPoint", "given", 0, eSt2) (by simp [el])) (by have e2 := congrArg (fun l => l[2]?) c4; simpa [el, el0] using e2) eTx2
  have er3 : Hz.Err (PySem.Challenge.rw_fallranks_k56_errors_of_leads).prog K mg "NotProgram" "given" 0 := Hz.err_ok (st := eSt3) (by kernel_rfl) (by kernel_rfl) X G su (.inl rfl) (List.all_eq_true.mp y2 ("NotProgram", "given", 0, eSt3) (by simp [el])) (by have e2 := congrArg (fun l => l[3]?) c4; simpa [el, el0] using e2) eTx3
  have er4 : Hz.Err (PySem.Challenge.rw_fallranks_k56_errors_of_leads).prog K mg "Stuck" "index" 2 := Hz.err_ok (st := eSt4) (by kernel_rfl) (by kernel_rfl) X G su (.inr rfl) (List.all_eq_true.mp y2 ("Stuck", "index", 2, eSt4) (by simp [el])) (by have e2 := congrArg (fun l => l[4]?) c4; simpa [el, el0] using e2) eTx4
  have ez0 : Hz.Err0 (PySem.Challenge.rw_fallranks_k56_errors_of_leads).prog K mg "NothingToUndo" 2 := Hz.err0_ok (st := eSz0) (by kernel_rfl) (by kernel_rfl) X G su (List.all_eq_true.mp y4 ("NothingToUndo", 2, eSz0) (by simp [el0])) (by have e2 := congrArg (fun l => l[5]?) c4; simpa [el, el0] using e2) eTz0
  obtain ⟨x5, x7⟩ := Bool.and_eq_true_iff.mp x5
  obtain ⟨x8, x7⟩ := Bool.and_eq_true_iff.mp x7
  have U2 : Bl2 mg := ⟨(free 62 "repr" rfl), (free 71 "list" rfl)⟩
  have U3 : Bl3 mg := ⟨(free 63 "max" rfl), (free 64 "min" rfl)⟩
  have US : BlS mg := ⟨(free 55 "isinstance" rfl), (free 62 "repr" rfl), (free 51 "len" rfl), (free 66 "ValueError" rfl), (free 67 "LookupError" rfl), (free 68 "ArithmeticError" rfl)⟩
  have MW : Pg.MoW mg := ⟨(free 69 "sum" rfl), (free 70 "zip" rfl)⟩
  have KI : Pg.KinP K (cP K) := Hx.kinB_ok x5
  have NN := Pg.kinN_ok x8
  have BB : Bas K mg _ _ _ := ⟨bas 0 (by decide), bas 1 (by decide), bas 2 (by decide)⟩
  have ES0 : ErS K (Hz.eC K "InvalidIndex") (Hz.eW K 0) (Hz.eW K 1) (Hz.eW K 2) 0 "given" := ⟨er0.i, er0.xf, er0.e.no, by decide, er0.own 0 (by decide), er0.own 1 (by decide), er0.own 2 (by decide), er0.bas 0 (by decide), er0.bas 1 (by decide), er0.bas 2 (by decide), er0.any⟩
  have ES1 : ErS K (Hz.eC K "InvalidPlace") (Hz.eW K 0) (Hz.eW K 1) (Hz.eW K 2) 0 "given" := ⟨er1.i, er1.xf, er1.e.no, by decide, er1.own 0 (by decide), er1.own 1 (by decide), er1.own 2 (by decide), er1.bas 0 (by decide), er1.bas 1 (by decide), er1.bas 2 (by decide), er1.any⟩
  have ES2 : ErS K (Hz.eC K "InvalidPoint") (Hz.eW K 0) (Hz.eW K 1) (Hz.eW K 2) 0 "given" := ⟨er2.i, er2.xf, er2.e.no, by decide, er2.own 0 (by decide), er2.own 1 (by decide), er2.own 2 (by decide), er2.bas 0 (by decide), er2.bas 1 (by decide), er2.bas 2 (by decide), er2.any⟩
  have ES3 : ErS K (Hz.eC K "NotProgram") (Hz.eW K 0) (Hz.eW K 1) (Hz.eW K 2) 0 "given" := ⟨er3.i, er3.xf, er3.e.no, by decide, er3.own 0 (by decide), er3.own 1 (by decide), er3.own 2 (by decide), er3.bas 0 (by decide), er3.bas 1 (by decide), er3.bas 2 (by decide), er3.any⟩
  have ES4 : ErS K (Hz.eC K "Stuck") (Hz.eW K 0) (Hz.eW K 1) (Hz.eW K 2) 2 "index" := ⟨er4.i, er4.xf, er4.e.no, by decide, er4.own 0 (by decide), er4.own 1 (by decide), er4.own 2 (by decide), er4.bas 0 (by decide), er4.bas 1 (by decide), er4.bas 2 (by decide), er4.any⟩
  have ES5 : ErS0 K (Hz.eC K "NothingToUndo") (Hz.eW K 0) (Hz.eW K 1) (Hz.eW K 2) 2 := ⟨ez0.i, by decide, ez0.own 0 (by decide), ez0.own 1 (by decide), ez0.own 2 (by decide), ez0.bas 0 (by decide), ez0.bas 1 (by decide), ez0.bas 2 (by decide), ez0.any⟩
  have cr := fun (i j : Nat) (hi : i < 6) (hj : j < 6) => Hx.cross_ok x7 i j hi hj
  have ER : Errs K mg (Hz.eW K 0) (Hz.eW K 1) (Hz.eW K 2) (Hz.eC K "InvalidIndex") (Hz.eC K "InvalidPlace") (Hz.eC K "InvalidPoint") (Hz.eC K "NotProgram") (Hz.eC K "Stuck") (Hz.eC K "NothingToUndo") := ⟨er0.g, ES0, er1.g, ES1, er2.g, ES2, er3.g, ES3, er4.g, ES4, ez0.g, ES5, cr 0 0 (by decide) (by decide), cr 0 1 (by decide) (by decide), cr 0 2 (by decide) (by decide), cr 0 3 (by decide) (by decide), cr 0 4 (by decide) (by decide), cr 0 5 (by decide) (by decide), cr 1 0 (by decide) (by decide), cr 1 1 (by decide) (by decide), cr 1 2 (by decide) (by decide), cr 1 3 (by decide) (by decide), cr 1 4 (by decide) (by decide), cr 1 5 (by decide) (by decide), cr 2 0 (by decide) (by decide), cr 2 1 (by decide) (by decide), cr 2 2 (by decide) (by decide), cr 2 3 (by decide) (by decide), cr 2 4 (by decide) (by decide), cr 2 5 (by decide) (by decide), cr 3 0 (by decide) (by decide), cr 3 1 (by decide) (by decide), cr 3 2 (by decide) (by decide), cr 3 3 (by decide) (by decide), cr 3 4 (by decide) (by decide), cr 3 5 (by decide) (by decide), cr 4 0 (by decide) (by decide), cr 4 1 (by decide) (by decide), cr 4 2 (by decide) (by decide), cr 4 3 (by decide) (by decide), cr 4 4 (by decide) (by decide), cr 4 5 (by decide) (by decide), cr 5 0 (by decide) (by decide), cr 5 1 (by decide) (by decide), cr 5 2 (by decide) (by decide), cr 5 3 (by decide) (by decide), cr 5 4 (by decide) (by decide), cr 5 5 (by decide) (by decide)⟩
  have EK0 : Pg.ErrK (PySem.Challenge.rw_fallranks_k56_errors_of_leads).prog K mg "InvalidIndex" (Hz.eC K "InvalidIndex") (Hz.eW K 0) (Hz.eI K "InvalidIndex") "given" := ⟨er0.e, er0.g, er0.i.ex, er0.ty⟩
  have EK1 : Pg.ErrK (PySem.Challenge.rw_fallranks_k56_errors_of_leads).prog K mg "InvalidPlace" (Hz.eC K "InvalidPlace") (Hz.eW K 0) (Hz.eI K "InvalidPlace") "given" := ⟨er1.e, er1.g, er1.i.ex, er1.ty⟩
  have EK2 : Pg.ErrK (PySem.Challenge.rw_fallranks_k56_errors_of_leads).prog K mg "InvalidPoint" (Hz.eC K "InvalidPoint") (Hz.eW K 0) (Hz.eI K "InvalidPoint") "given" := ⟨er2.e, er2.g, er2.i.ex, er2.ty⟩
  have EK3 : Pg.ErrK (PySem.Challenge.rw_fallranks_k56_errors_of_leads).prog K mg "NotProgram" (Hz.eC K "NotProgram") (Hz.eW K 0) (Hz.eI K "NotProgram") "given" := ⟨er3.e, er3.g, er3.i.ex, er3.ty⟩
  have EK : Pg.ErrA (PySem.Challenge.rw_fallranks_k56_errors_of_leads).prog K mg "Stuck" (Hz.eC K "Stuck") (Hz.eW K 2) (Hz.eI K "Stuck") "index" := ⟨er4.e, er4.g, er4.i.ex, er4.ty⟩
  have EN : Pg.Err0 (PySem.Challenge.rw_fallranks_k56_errors_of_leads).prog K mg "NothingToUndo" (Hz.eC K "NothingToUndo") (Hz.eW K 2) (Hz.eI K "NothingToUndo") := ⟨ez0.t, ez0.n, ez0.g, ez0.i.ex, ez0.ty⟩
  have HC : Pg.HisC K (He.ga K "History") _ _ _ _ _ _ _ _ := ⟨(He.cls_ok (c.fact 90 (f := .cls "History") rfl)), (He.noat_ok (c.fact 91 (f := .noat "History" "states") rfl)), (He.mkr_ok (c.fact 95 (f := .mkr "History") rfl)), (He.meth_ok (c.fact 92 (f := .meth "History" "present") rfl)), (He.meth_ok (c.fact 93 (f := .meth "History" "change") rfl)), (He.meth_ok (c.fact 94 (f := .meth "History" "back") rfl)), F52, F53, F54, F55⟩
  have LC : Pg.LedC K mg (He.ga K "Lead") := ⟨(He.cls_ok (c.fact 97 (f := .cls "Lead") rfl)), (He.noat_ok (c.fact 98 (f := .noat "Lead" "_program") rfl)), (He.noat_ok (c.fact 99 (f := .noat "Lead" "_history") rfl))⟩
  have PRplace : Pg.PrD K (He.ga K "Lead") "place" "Lead.place" Pg.sLpl _ _ _ := ⟨(Hx.propB_ok (List.all_eq_true.mp y3 ("Lead", "place") (by simp [pl]))), E4⟩
  have PRpoint : Pg.PrD K (He.ga K "Lead") "point" "Lead.point" Pg.sLpo _ _ _ := ⟨(Hx.propB_ok (List.all_eq_true.mp y3 ("Lead", "point") (by simp [pl]))), E5⟩
  have PRtaken : Pg.PrD K (He.ga K "Lead") "taken" "Lead.taken" Pg.sLta _ _ _ := ⟨(Hx.propB_ok (List.all_eq_true.mp y3 ("Lead", "taken") (by simp [pl]))), E6⟩
  have PRready : Pg.PrD K (He.ga K "Lead") "ready" "Lead.ready" Pg.sLre _ _ _ := ⟨(Hx.propB_ok (List.all_eq_true.mp y3 ("Lead", "ready") (by simp [pl]))), E7⟩
  have PRagain : Pg.PrD K (He.ga K "Lead") "again" "Lead.again" Pg.sLag _ _ _ := ⟨(Hx.propB_ok (List.all_eq_true.mp y3 ("Lead", "again") (by simp [pl]))), E8⟩
  have A0 : LdB K mg (cP K) (He.ga K "History") (He.ga K "Lead") _ _ _ _ _ _ _ _ _ _ _ _ _ _ _ _ _ _ _ _ _ _ _ := ⟨LC, HC, PRplace, PRpoint, PRtaken, PRready, PRagain⟩
  have S1 : Ds K mg _ _ _ _ _ _ _ _ := ⟨F17, F34, F35, F36, (glo 17 "_law_cast" rfl), (glo 34 "_law_unit" rfl), (glo 35 "_law_shift" rfl), (glo 36 "_law_little" rfl)⟩
  have S2 : Dp2 K mg _ _ _ _ _ _ := ⟨F18, F37, F38, (glo 18 "_law_any_of" rfl), (glo 37 "_law_ask" rfl), (glo 38 "_law_turn" rfl)⟩
  have Gd : Dq K mg _ _ _ _ _ _ := ⟨F17, F18, F19, (glo 17 "_law_cast" rfl), (glo 18 "_law_any_of" rfl), (glo 19 "_law_tags" rfl)⟩
  have Bd : Df K mg (He.ga K "Lead") _ _ _ _ _ _ _ _ _ _ _ _ _ _ _ _ _ _ _ _ _ _ := ⟨F40, F41, F43, F33, F42, F47, F44, F46, (glo 40 "_law_small" rfl), (glo 41 "_law_built" rfl), (glo 43 "_law_spot" rfl), (glo 33 "_law_spots" rfl), (glo 42 "_law_answer" rfl), (glo 47 "_law_sort" rfl), (glo 44 "_law_thing" rfl), (glo 46 "_law_due" rfl), (glo 96 "Lead" rfl), (He.mkr_ok (c.fact 102 (f := .mkr "Lead") rfl)), F56, (He.meth_ok (c.fact 100 (f := .meth "Lead" "take") rfl)), F57, (He.meth_ok (c.fact 101 (f := .meth "Lead" "undo") rfl)), F58⟩
  refine ⟨_, fun s v => b s [v] rfl, fun base kb nb tB => ?_⟩
  have GIX := Pg.ok_ix (P := (PySem.Challenge.rw_fallranks_k56_errors_of_leads).prog) (w := w) (base := base) F24 M0 F0 (glo 0 "is_integer" rfl)
  have GIN := Pg.ok_areints (P := (PySem.Challenge.rw_fallranks_k56_errors_of_leads).prog) (w := w) (base := base) F2 M0 F0 (glo 0 "is_integer" rfl)
  have G1 := Pg.ok_cgX (P := (PySem.Challenge.rw_fallranks_k56_errors_of_leads).prog) (w := w) (base := base) F25 M0 XT KI NN EK3
  have G2 := Pg.ok_ck (P := (PySem.Challenge.rw_fallranks_k56_errors_of_leads).prog) (w := w) (base := base) F26 M0 XT F24 (glo 24 "is_index" rfl) GIX (prp "branches" (by decide +kernel)) E1 EK0
  have G3 := Pg.ok_clX (P := (PySem.Challenge.rw_fallranks_k56_errors_of_leads).prog) (w := w) (base := base) F27 M0 XT (prp "places" (by decide +kernel)) E2 EK1
  have G4 := Pg.ok_coX (P := (PySem.Challenge.rw_fallranks_k56_errors_of_leads).prog) (w := w) (base := base) F28 M0 XT F2 (glo 2 "are_integers" rfl) GIN (prp "names" (by decide +kernel)) E0 EK2
  have GFI := Pg.ok_fi (P := (PySem.Challenge.rw_fallranks_k56_errors_of_leads).prog) (w := w) (base := base) F31 M0 MW F30 (glo 30 "value_at" rfl) F29 (glo 29 "weighed" rfl)
  have GBE := Pg.ok_be (P := (PySem.Challenge.rw_fallranks_k56_errors_of_leads).prog) (w := w) (base := base) F32 M0 MW F30 (glo 30 "value_at" rfl) F29 (glo 29 "weighed" rfl)
  have GI := Pg.ok_liX (C := cP K) (P := (PySem.Challenge.rw_fallranks_k56_errors_of_leads).prog) (w := w) (base := base) F56 LC HC (glo 89 "History" rfl) F25 (glo 25 "check_program" rfl) G1 F27 (glo 27 "check_place" rfl) G3 F28 (glo 28 "check_point" rfl) G4
  have GT := Pg.ok_ltX (P := (PySem.Challenge.rw_fallranks_k56_errors_of_leads).prog) (w := w) (base := base) F57 M0 XT LC HC PRplace PRpoint F26 (glo 26 "check_index" rfl) G2 F31 (glo 31 "fits" rfl) GFI F32 (glo 32 "state_behind" rfl) GBE (prp "branches" (by decide +kernel)) E1 EK
  have GU := Pg.ok_lu (C := cP K) (P := (PySem.Challenge.rw_fallranks_k56_errors_of_leads).prog) (w := w) (base := base) F58 M0 LC HC EN
  have GRI := ok_right (P := (PySem.Challenge.rw_fallranks_k56_errors_of_leads).prog) (w := w) (base := base) F48 T1 Rg U2 M0 Gd S1 S2 F39 (glo 39 "_law_arm" rfl) F45 (glo 45 "_law_is_whole" rfl) XT D M Z L Bd A0 F31 (glo 31 "fits" rfl) GFI (prp "branches" (by decide +kernel)) E1 GI GT GU BB ER US (tB ("_law_right", none) (List.mem_singleton.mpr rfl)) fun c hc => hc.of.symm
  exact ok_law F49 T1 Rg M0 U3 F16 (glo 16 "_law_begun" rfl) F48 (glo 48 "_law_right" rfl) GRI
end K5
open PySem PySem.W PySem.Calls PyProof.Rows
theorem PySem.Challenge.cw_fallranks_k56_errors_of_leads_holds : PySem.Challenge.rw_fallranks_k56_errors_of_leads.Holds := by
  w_on; o_law
  refine HandSHeadRun.head_any (r := OpenLaw.row PySem.Challenge.rw_fallranks_k56_errors_of_leads) (q := view (OpenLaw.row PySem.Challenge.rw_fallranks_k56_errors_of_leads).prog [82]) (H := K5.hk) (ob := K5.ob) (M := 12000) (loose := K5.names) (d := HandSHeadRun.topDef (OpenLaw.row PySem.Challenge.rw_fallranks_k56_errors_of_leads).prog 82) (kwd := []) K5.ob_eq
    (by kernel_rfl) (fun s => by kernel_rfl) K5.run (by kernel_rfl) (by kernel_rfl) (by kernel_rfl) (by rfl) (by first | assumption | decide +kernel) (by decide +kernel) ⟨rfl, rfl, rfl, rfl, rfl, by decide +kernel⟩ ?hw ?hc
  case hw => w_witness2
  case hc =>
    refine Gd.walk_GT (l := PySem.Challenge.rw_fallranks_k56_errors_of_leads) (n := 63) (k := 12) (x := "_law_script") rfl (by decide) (by kernel_rfl) ⟨rfl, by decide, by decide⟩ ?F
    intro w mg fa h Y G hmg0
    obtain ⟨K, KX, c, tb⟩ := Y
    have hmg : mg ("law" : PySem.Str) = some (.ref fa) := by
      have e : (HandSHeadRun.topDef (OpenLaw.row PySem.Challenge.rw_fallranks_k56_errors_of_leads).prog 82).name = ("law" : PySem.Str) := by kernel_rfl
      rw [← e]
      exact hmg0
    obtain ⟨fd, hb, hF⟩ := K5.facts (w := w) KX G hmg c
    refine ⟨K, fd, K5.spLaw K [((He.cT K ("_law_right", none)).2, K5.lamQ)], K5.tf.map fun p => He.cT K p, KX, ⟨fun q hq => ?_, fun q hq => ?_, fun q hq => ?_⟩, hb, fun H a ns hl hbits hH hS => ⟨a, ns, rfl, hS, hl, hbits, fun q hq => ?_, fun _ => rfl⟩, fun base kb nb tB => hF base kb nb fun p hp => tB _ (List.mem_map.mpr ⟨p, hp, rfl⟩)⟩
    · obtain ⟨p, hp, rfl⟩ := List.mem_map.mp hq
      exact (tb p hp).2.2
    · obtain ⟨p, hp, rfl⟩ := List.mem_map.mp hq
      exact (tb p hp).2.1
    · obtain ⟨p, hp, rfl⟩ := List.mem_map.mp hq
      exact PySem.W.codeHd_of_K KX (tb p hp).1
    · simp only [List.mem_cons, List.not_mem_nil, or_false] at hq
      rcases hq with rfl
      · exact LamX.TabS.nil (hH _ (List.mem_map.mpr ⟨("_law_right", none), by simp [K5.tf], rfl⟩))
