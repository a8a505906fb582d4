import PyProof.Rows.All
import Wide.All
import OpenK.AllK
import Wide.FinOn
import HandS.ForMost
import HandS.ForExc
import HandS.Defaults
import KE.KExcSuper
import HandS.ExcInit
import HandS.HeadWalk
import KE.KExcIs
import HandS.ExcValue
import HandS.ExcField
import HandS.IsInst
import HandS.Walk
import HandS.Lambda
import HandS.TupAny
import KE.GoesEnum
import HandS.HotCalls
import KE.IntBitsLaws
import HandS.Property
import HandS.ExcOwn
import HandS.Head0
import HandS.Head1
import HandS.Head2
import HandS.HeadEnd
import HandS.HeadHook1
import HandS.HeadHook2
import HandS.HeadHook3
import HandS.HeadHook4
import KE.KTryMore
import HandS.EndBits
import HandS.EndTab
import HandS.Head3
import HandS.Zip
import HandS.Star
import HandS.Wide
import HandS.Gcd
import KE.DataEq
import HandS.TupMul
import HandS.MakeKwOnly
import HandS.Text
import KE.IntTextLaws
import PySem.Challenge.RW_fallranks_k23_least_refused
set_option Elab.async false
set_option linter.all false
set_option maxRecDepth 100000
set_option maxHeartbeats 4000000
namespace Gd
open PySem PySem.Spec PyProof.Rows L2
/-! defs that show lists: no list is being shown around them -/
/-- a promise kept where nothing is being shown -/
structure FnG (P : Program) (w : World) (K : PySem.W.Frag) (mg : Str → Option Value) (base : Heap) (k : Nat) (f : Addr) (fd : FuncData) (ps : List Str) (sp : Sp) : Prop where
  len : ∀ vs H Q E, sp vs H Q E → vs.length = ps.length
  run : ∀ (A : Around) (outer : List Env) (s : Shared) (H : Hp) (args : Args) (us : List Value) (vs : List V) (Q : VK) (E : XK), A.guards = some [] → Room k A → Env0 P w K mg base A outer s H → BindsTo s fd args (ps.zip us) → Vals vs us → sp vs H Q E →
    codeAny (model P w) A (.call (.ref f) args) (CR CX0 outer P w H s Q E) s
theorem deeper_guards {A : Around} {env : Env} (h : A.guards = some []) : (A.deeper env).guards = some [] := by
  first
    | exact h
    | simpa [Around.deeper] using h
section
variable {P : Program} {w : World} {K : PySem.W.Frag} {mg : Str → Option Value} {base : Heap} {x qual : Str} {params : Arguments} {body : List Stmt} {scope : Scope} {dvs : List V} {kws : List (Str × V)} {f : Addr} {fd : FuncData}
theorem okG {N ps : List Str} {k : Nat} {sp : Sp} (F : FunD K x qual params body scope dvs kws f fd) (S : FnScope N ps scope) (len : ∀ vs H Q E, sp vs H Q E → vs.length = ps.length)
    (hbody : ∀ (cdv : Value) (A : Around) (outer : List Env) (s : Shared) (H : Hp) (vs : List V) (Q : VK) (E : XK), (A.deeper (envOfC qual scope s.heap.objs.size f cdv)).guards = some [] → Room k (A.deeper (envOfC qual scope s.heap.objs.size f cdv)) → sp vs H Q E →
      ∃ t, PSs (cxOf CX0 P w K mg base N qual scope f cdv A outer s H E) body t ∧ t { nx := fun _ H' => Q .non H', rt := Q } (start N vs) H) : FnG P w K mg base (k + 1) f fd ps sp := by
  obtain ⟨oc, od, dV, kV, doc, pm, an, cdv, ct, osl, rfl, lk, hcd, _, _⟩ := F.ex
  refine ⟨len, fun A outer s H args us vs Q E hgd hr e0 hb r hsp => ?_⟩
  have hlv := len _ _ _ _ hsp
  have KX : K.In s.heap := e0.mod.kin.keeps fun b o e => (e0.bs b o e).1
  have lim : s.heap.NoLimit := e0.mod.nolimit.keeps fun b o e => (e0.bs b o e).1
  have hkd : ∀ y ∈ ps.zip us, scope.names.lookup y.1 = some .local ∨ (scope.names.lookup y.1 = some .cell ∧ ((cellsFrom (s.heap.objs.size + 1) scope.names []).lookup y.1).isSome = true) := fun ⟨n, v⟩ hy => by
    rcases S.par n (List.of_mem_zip hy).1 with q | q
    · exact .inl q
    · exact .inr ⟨q, PySem.W.cellsFrom_some _ _ _ (.inl q)⟩
  refine codeAny_call_function hr.depth (KX _ _ lk) rfl S.co S.gen rfl (PySem.W.codeRec_of KX hcd) (hb _ _ _ _ ?_)
  refine wpAny_newFunctionEnv_cells S.kind hkd fun env he s1 z => ?_
  subst he
  refine ⟨lim.keeps z.toInCall.keep, codeAny_func ?_⟩
  obtain ⟨t, ht, hq⟩ := hbody cdv A outer s H vs Q E (deeper_guards hgd) (hr.deeper _) hsp
  have I : Inv (cxOf CX0 P w K mg base N qual scope f cdv A outer s H E) [] (start N vs) H s1 := inv_start S hr.hd e0 hlv r z
  refine wpAny_mono (ht.run [] s1 (start N vs) H _ I hq) (fun fl s' hs => ?_) fun e s' hs => hs
  cases fl with
  | ret u =>
    obtain ⟨v, σ', H', J, rv, q⟩ := hs
    exact ⟨v, H', J.os, J.bare, J.base, J.hok, rv, q⟩
  | next =>
    obtain ⟨σ', H', J, q⟩ := hs
    exact ⟨V.non, H', J.os, J.bare, J.base, J.hok, rfl, q⟩
  | brk =>
    obtain ⟨_, _, _, q⟩ := hs
    exact q.elim
  | cont =>
    obtain ⟨_, _, _, q⟩ := hs
    exact q.elim
end
section
variable {X : Cx} {k : Nat} {f : Addr} {fd : FuncData} {ps : List Str} {sp : Sp} {x : Str} {p pos : Pos} {e : Expr} {es : List Expr} {t : TA}
/-- such a def called -/
theorem pe_callG (F : FnG X.prog X.w X.K X.mg X.base k f fd ps sp) (hgd : X.A.guards = some []) (hr : Room k X.A) (hg : Gl X x) (hm : X.mg x = some (.ref f)) (hk : PySem.W.keepIn X.K (.ref f) = true) (hb : Binds X.K fd ps [])
    (ha : PA X (e :: es) t) (hdb : (x == ("__debug__" : Str)) = false := by decide) (he : starEach (e :: es) X.env = (false, eval e X.env) :: starEach es X.env := by rfl) (hpl : (backTo pos (starEach es X.env)).any (·.1) = false := by rfl) :
    PE X (.Call (.Name x p) (e :: es) [] pos) (tCall sp [] E0 t) := by
  refine ⟨fun pins s σ H Q I h => ?_⟩
  refine wpAny_Call_Name_kw (ld_glob I hg hm ?_ hdb)
  refine PySem.W.callWith_K (h₀ := X.base) I.ok.mod.kin hk (thn (ha.run pos pins s σ H _ I h) fun us s1 ⟨vs, H1, I1, r, q⟩ => ⟨I1.kIn, ?_⟩) he hpl
  have r2 : Vals (vs ++ []) (us ++ []) := r.append .nil
  have hl : (us ++ []).length = ps.length := by
    rw [← r2.length]
    exact F.len _ _ _ _ q
  refine wpAny_call (codeAny_mono (F.run X.A X.stack s1 H1 ⟨us, []⟩ (us ++ []) (vs ++ []) Q E0 hgd hr I1.env0 (hb s1 us I1.kIn hl) r2 q) fun r s' hq => ?_)
  cases r with
  | error er => exact hq.elim
  | ok fl =>
    cases fl with
    | ret u => exact I1.after hq
    | next => exact hq.elim
    | brk => exact hq.elim
    | cont => exact hq.elim
/-! ### repr of data -/
/-- data that stands: as Dp, or a dict of flat things at its top -/
def flatD : V → Option PyData
  | .non => some .none
  | .bl b => some (.bool b)
  | .int i => some (.int i)
  | .str z => some (.str z)
  | _ => none
def keyD : Key → PyData
  | .inl i => .int i
  | .inr z => .str z
def flatR (q : Key × V) (p : PyData × PyData) : Prop := p.1 = keyD q.1 ∧ flatD q.2 = some p.2
def Rp (K : PySem.W.Frag) (H : Hp) (v : V) (d : PyData) : Prop := Dp K H v d ∨ ∃ (a : Addr) (kvs : List (Key × V)) (ds : List (PyData × PyData)), v = .ref a ∧ H a = some (.dK kvs) ∧ Paired flatR kvs ds ∧ d = .dict ds
theorem flat_reads {h : Heap} {v : V} {u : Value} {d : PyData} (r : RelV v u) (e : flatD v = some d) : Reads h u d [] := by
  cases v with
  | non =>
    cases r
    cases e
    exact .none
  | bl b =>
    cases r
    cases e
    exact .bool b
  | int i =>
    obtain ⟨t, rfl⟩ := r
    cases e
    exact .int i t
  | str z =>
    obtain ⟨t, rfl⟩ := r
    cases e
    exact .str z t
  | byt _ => cases e
  | flt _ => cases e
  | ref _ => cases e
  | ty _ => cases e
theorem key_reads {h : Heap} {k : Key} {u : Value} (r : keyIs k u = true) : Reads h u (keyD k) [] := by
  rcases keyIs_shape r with ⟨i, t, rfl, rfl⟩ | ⟨z, t, rfl, rfl⟩
  · exact .int i t
  · exact .str z t
theorem dict_reads {P : Program} {w : World} {h : Heap} : ∀ {kvs : List (Key × V)} {vs : List (Key × Value)} {es : List DictEntry} {ds : List (PyData × PyData)}, KV kvs vs → Pairs (mixKind P w) es vs → Paired flatR kvs ds →
    ReadsAll h (es.map (·.key)) (ds.map (·.1)) [] ∧ ReadsAll h (es.map (·.val)) (ds.map (·.2)) []
  | _, _, _, _, .nil, .nil, .nil => ⟨.nil, .nil⟩
  | _, _, _, _, .cons r t, .cons a b c, .cons f g => by
    obtain ⟨h1, h2⟩ := dict_reads t c g
    obtain ⟨r1, r2⟩ := r
    obtain ⟨f1, f2⟩ := f
    refine ⟨?_, ?_⟩
    · have k1 := key_reads (h := h) a
      rw [← r1, ← f1] at k1
      exact ReadsAll.cons (bs := []) k1 h1
    · have k2 := flat_reads (h := h) r2 f2
      rw [← b] at k2
      exact ReadsAll.cons (bs := []) k2 h2
theorem dp_nodict : ∀ {K : PySem.W.Frag} {H : Hp} (d : PyData) {v : V}, Dp K H v d → d.hasDict = false
  | _, _, .none, _, _ => rfl
  | _, _, .bool _, _, _ => rfl
  | _, _, .int _, _, _ => rfl
  | _, _, .str _, _, _ => rfl
  | K, H, .list ds, _, h => by
    cases h with
    | lst hs ha =>
      simp only [PyData.hasDict]
      exact dp_nodictAll ds ha
  | K, H, .tuple ds, _, h => by
    cases h with
    | tup hs ha =>
      simp only [PyData.hasDict]
      exact dp_nodictAll ds ha
  | _, _, .dict _, _, h => by cases h
where dp_nodictAll {K : PySem.W.Frag} {H : Hp} : ∀ (ds : List PyData) {vs : List V}, DpAll K H vs ds → PyData.hasDictAll ds = false
  | [], _, _ => rfl
  | d :: ds, _, h => by
    cases h with
    | cons h1 h2 =>
      simp only [PyData.hasDictAll, dp_nodict d h1, dp_nodictAll ds h2, Bool.or_self]
/-- repr of such data -/
theorem call_repr (hgd : X.A.guards = some []) (hu : X.A.units + 64 < cLine) : CallR X (.builtin "repr") (fun xs H Q => ∃ v d, xs = [v] ∧ Rp X.K H v d ∧ PyData.showable d = true ∧ d.depth ≤ 20 ∧ d.shown.length ≤ sizeLine ∧ Q (.str d.shown) H) := by
  intro pins s σ H xs us Q I r h
  obtain ⟨v, d, rfl, hd, hs, hdp, hsz, q⟩ := h
  obtain ⟨u, rfl, ru⟩ := vals1 r
  have go : ∀ (a : Addr) (as : List Addr), u = .ref a → Reads s.heap u d as → (d.hasDict = true → sysModules ∉ as) → wpAny (model X.prog X.w) X.A (call (.builtin "repr") [u]) (EP X pins σ Q) X.xe s := by
    intro a as e rd hm
    subst e
    exact repr_of_reads' rd hs hm hgd (by omega) (fun _ _ e => e) (fun h' t tk kk => ⟨.str d.shown, H, I.kept (t' := tk) kk, ⟨t, rfl⟩, q⟩) hsz
  rcases hd with hd | ⟨a, kvs, ds, rfl, ha, hp, rfl⟩
  · have hn := dp_nodict d hd
    obtain ⟨as, rd⟩ := Dp.reads I d v u hd ru
    cases hd with
    | non =>
      cases ru
      simp only [PyData.shown] at q
      exact P.repr_of_none ⟨.str _, H, I.tok _, ⟨_, rfl⟩, q⟩
    | bl b =>
      cases ru
      simp only [PyData.shown] at q
      exact P.repr_of_bool ⟨.str _, H, I.tok _, ⟨_, rfl⟩, q⟩
    | int i =>
      obtain ⟨t, rfl⟩ := ru
      exact P.repr_of_int (by simpa [PyData.showable] using hs) ⟨.str _, H, I.tok _, ⟨_, rfl⟩, by simpa only [PyData.shown] using q⟩
    | str z =>
      obtain ⟨t, rfl⟩ := ru
      exact P.repr_of_str ⟨.str _, H, I.tok _, ⟨_, rfl⟩, by simpa only [PyData.shown] using q⟩ (by simpa only [PyData.shown] using hsz)
    | lst h1 h2 =>
      cases ru
      exact go _ as rfl rd fun z => by rw [hn] at z; cases z
    | tup h1 h2 =>
      cases ru
      exact go _ as rfl rd fun z => by rw [hn] at z; cases z
  · cases ru
    obtain ⟨_, hsy, vs, kv, o, es, ep, e1, e2, e3, _, e5, _⟩ := (show ObjOk X.prog X.w H s.heap a (.dK kvs) from I.hok a _ ha)
    obtain ⟨k1, k2⟩ := dict_reads (h := s.heap) kv e5 hp
    refine go a (a :: [] ++ []) rfl (Reads.dict e1 e2.1 e3 k1 k2) fun _ z => ?_
    simp only [List.append_nil, List.mem_singleton, List.append_eq] at z
    rw [← z] at hsy
    simp at hsy
end
end Gd
set_option Elab.async false
set_option linter.all false
set_option maxRecDepth 100000
set_option maxHeartbeats 4000000
namespace Fx
open PySem PySem.W PySem.Calls PyProof.Rows PySem.HandSPX
open Builtin Builtin.ObjectAttr
/-- a built-in base of errors, as far as errors over it want it -/
structure Root (B newId initId : String) (bmB : List Value) : Prop where
  fb : ExcBaseFacts B newId initId bmB
  kx : KxsFacts B initId
  pass : ∀ self, refuseLoop self "__setattr__" bmB = pure ()
  obj : bmB.contains (.type "object") = true
theorem rootV : Root "ValueError" "ValueError.__new__" "ValueError.__init__" [.type "ValueError", .type "Exception", .type "BaseException", .type "object"] :=
  ⟨F.excBase_ValueError, kxs_ValueError, F.store_ValueError.passes, by decide +kernel⟩
theorem rootL : Root "LookupError" "LookupError.__new__" "LookupError.__init__" [.type "LookupError", .type "Exception", .type "BaseException", .type "object"] :=
  ⟨F.excBase_LookupError, kxs_LookupError, F.store_LookupError.passes, by decide +kernel⟩
theorem rootA : Root "ArithmeticError" "ArithmeticError.__new__" "ArithmeticError.__init__" [.type "ArithmeticError", .type "Exception", .type "BaseException", .type "object"] :=
  ⟨F.excBase_ArithmeticError, kxs_ArithmeticError, F.store_ArithmeticError.passes, by decide +kernel⟩
section
variable {prog : Program} {w : World} {A : Around} {R : Result → Shared → Prop} {g0 : Heap} {gs : Array GenState} {dr : Drawn} {tk0 : Nat} {oz : OsState} {B newId initId : String} {bmB : List Value}
/-- the first attribute of a new error: its dict is made -/
theorem osa (Z : Root B newId initId bmB) {K : Frag} {name : Str} {tk : Tok} {v : Value} {x C W : Addr} {fv : Array Value} {cd : ClassData}
    (X : K.In g0) (hx : g0.get? x = some { cls := .ref C, data := .fields fv }) (hcd : clsIn K C = some cd) (hm : cd.mro = .ref C :: .ref W :: bmB) (hh : cd.hasDict = true) (ha : findIn K (.ref C) name = some none)
    (hq : ∀ g1 tk1 dx, (∀ b o, b ≠ x → g0.get? b = some o → g1.get? b = some o) → g0.objs.size ≤ dx → dx ≠ x → g1.get? x = some { cls := .ref C, dict := some dx, data := .fields fv } →
      g1.Ns1 dx (fun y => if y = name then some v else none) → R (.ok (.ret .none)) ⟨g1, gs, dr, tk1, oz⟩) :
    codeAny (model prog w) A (.call (.builtin "object.__setattr__") ⟨[.ref x, .str name tk, v], []⟩) R ⟨g0, gs, dr, tk0, oz⟩ := by
  have J : PySem.W.InstAt g0 x { cls := .ref C, data := .fields fv } C none := ⟨hx, rfl, rfl, trivial⟩
  have ST := PySem.F.store_object
  have hob : (Value.ref C :: Value.ref W :: bmB).contains (.type "object") = true := by
    rw [List.contains_cons, List.contains_cons, Z.obj, Bool.or_true, Bool.or_true]
  have hxs : x ≠ g0.objs.size := Nat.ne_of_lt (Heap.lt_size hx)
  have hmi : mroIn K C (.type "object") = some true := by
    unfold mroIn
    rw [hcd, Option.bind_some, hm, if_neg (show ¬ (List.isEmpty (Value.ref C :: Value.ref W :: bmB) = true) from Bool.false_ne_true), hob]
  have sub : Looks (model prog w) g0 (isInstance (.ref x) (.type "object")) true := J.type.andThen (looks_mroIn X hmi)
  refine codeAny_call_builtin ST.slot.plain ST.entry (@check_slot (model prog w) _ _ ⟨g0, gs, dr, tk0, oz⟩ "object.__setattr__" "object" "__setattr__" (.ref x) [.str name tk, v] [] _ ST.kind ST.split sub (ST.args (.ref x) (.str name tk) v) ?_)
  have hmr : Looks (model prog w) g0 (mroOf (.ref C)) cd.mro := (looks_clsIn X hcd).andThen .now
  have L3 : Looks (model prog w) g0 (storeTaker? none) none := .now
  have hcls : Looks (model prog w) g0 (classData C) cd := looks_clsIn X hcd
  rw [osa_eq, refuse_eq]
  refine wpAny_bind (wpAny_bind (J.type.at (wpAny_bind (hmr.at ?_))))
  rw [hm, refuseLoop_ref, refuseLoop_ref, Z.pass]
  refine wpAny_pure (wpAny_bind (J.type.at (wpAny_bind ((looks_findIn X ha).at (wpAny_bind (L3.at ?_))))))
  show wpAny _ _ (storeInOwnDict (.ref x) (.ref C) (.str name tk) name v false) _ _ _
  obtain ⟨nm, bs, mro, ns, qn, hd, sn, sb, ab, col, del⟩ := cd
  dsimp only at hh
  subst hh
  unfold storeInOwnDict ownDictForStores
  repeat (first | with_reducible refine store_in_new ?_ ?_ | with_reducible refine wpAny_loadPart_at hx ?_ | with_reducible refine hcls.at ?_ | wp_step)
  · refine ⟨_, #[], _, (Heap.get?_update_ne _ _ _ _ hxs.symm).trans (Heap.get?_push_at rfl rfl), rfl, fun e he => absurd he (by simp), ?_⟩
    intro _
    rfl
  · intro g1 tk1 hn' hs
    have hx₁ : (g0.push { cls := .type "dict", data := .dict #[] }).get? x = some { cls := .ref C, data := .fields fv } := Heap.get?_push_of_some _ hx
    refine hq g1 tk1 g0.objs.size (fun b o hb ho => ?_) (Nat.le_refl _) hxs.symm ?_ hn'
    · exact (hs.2 b (Nat.ne_of_lt (Heap.lt_size ho))).trans ((Heap.get?_update_ne _ _ _ _ hb).trans (Heap.get?_push_of_some _ ho))
    · exact (hs.2 x hxs).trans (Heap.get?_update_self _ hx₁ rfl)
end
/-- the text of an error's __init__: super().__init__(msg), and one attribute or none -/
def iS0 : Scope := { kind := .function, names := [(Str.ofString "self", .local), (Str.ofString "__class__", .free), (Str.ofString "super", .globalImplicit)], isGenerator := false, isCoroutine := false, more := [] }
def iS1 (f : Str) : Scope := { kind := .function, names := [(Str.ofString "self", .local), (f, .local), (Str.ofString "__class__", .free), (Str.ofString "super", .globalImplicit)], isGenerator := false, isCoroutine := false, more := [] }
def iA0 (p1 : Pos) : Arguments := { posonlyargs := [], args := [{ arg := "self", annotation := none, pos := p1 }], vararg := none, kwonlyargs := [], kw_defaults := [], kwarg := none, defaults := [] }
def iA1 (f : Str) (p1 p2 : Pos) : Arguments := { posonlyargs := [], args := [{ arg := "self", annotation := none, pos := p1 }, { arg := f, annotation := none, pos := p2 }], vararg := none, kwonlyargs := [], kw_defaults := [], kwarg := none, defaults := [] }
def iSup (msg : Str) (k : Nat) (q1 q2 q3 q4 q5 q6 : Pos) : Stmt := .Expr (.Call (.Attribute (.Call (.Name "super" q1) [] [] q2) "__init__" q3) [.Constant (.str msg) k q4] [] q5) q6
def iSet (f : Str) (q1 q2 q3 q4 : Pos) : Stmt := .Assign [.Attribute (.Name "self" q1) f q2] (.Name f q3) q4
/-- what the written part says of the class at C, right under the own class at W; its __init__ at fI, which closes over its class in the cell at cc -/
structure ErrT (K : Frag) (mg : Str → Option Value) (newId initId : String) (bmB : List Value) (C W fI : Addr) : Prop where
  cls : ∃ nm q N bs sn sub ab col dd k0 k1 k2 k3 k5, K.lookup C = some (excClassObj nm q C N bs (.ref W :: bmB) true sn sub ab col dd k0 k1 k2 k3 k5 newId)
  sa : findIn K (.ref C) "__setattr__" = some (some (.builtin "object.__setattr__"))
  iC : findIn K (.ref C) "__init__" = some (some (.ref fI))
  tI : typeIn K (.ref fI) = some (.type "function")
  kC : keepIn K (.ref C) = true
  al : alongIn K "__init__" (.ref W :: bmB) = some (some (.builtin initId))
  th : nsIn K cStatics "thirdparty.any" = some none
  su : mg "super" = none
/-- its __init__ with one parameter -/
def Fn1 (prog : Program) (K : Frag) (C fI : Addr) (f : Str) : Prop := ∃ (oc : Value) (od : Option Addr) (qual msg : Str) (kM : Nat) (kV doc pm : Value) (an : Option Addr) (cda cc : Addr) (ct : Value) (osl : Array (Option Value)) (p1 p2 q1 q2 q3 q4 q5 q6 r1 r2 r3 r4 : Pos) (vs : Array Value) (file : Str) (tf : Tok) (ccl cl : Value) (cdd cld : Option Addr) (ccs csl : Array (Option Value)),
    K.lookup fI = some ⟨oc, od, .func (ksFn "__init__" qual (iA1 f p1 p2) [iSup msg kM q1 q2 q3 q4 q5 q6, iSet f r1 r2 r3 r4] (iS1 f) .none kV doc pm an (.ref cda) ct cc), osl⟩ ∧ codeIn K (.ref cda) qual = true ∧
    K.lookup cda = some ⟨ccl, cdd, .fields vs, ccs⟩ ∧ vs[2]? = some (.str file tf) ∧ ((prog.main.file : Str) == file) = true ∧ K.lookup cc = some ⟨cl, cld, .cell (some (.ref C)), csl⟩ ∧ (prog.main.scope.names.lookup ("super" : Str)).isSome = false ∧ (q3.endLine == q5.line) = true
end Fx
set_option Elab.async false
set_option linter.all false
set_option maxRecDepth 100000
set_option maxHeartbeats 4000000
namespace Fx
open PySem PySem.W PySem.Calls PyProof.Rows PySem.HandSPX
open Builtin Builtin.ObjectAttr
section
variable {prog : Program} {w : World} {A : Around} {R : Result → Shared → Prop} {s : Shared} {B newId initId : String} {bmB : List Value} {K : Frag} {mg : Str → Option Value} {base : Heap} {C W fI : Addr}
/-- super().__init__(msg) within the __init__ of a new error at x -/
theorem sup_stmt (Z : Root B newId initId bmB) (T : ErrT K mg newId initId bmB C W fI) (M : L2.Mod K mg base) (kb : ∀ b o, base.get? b = some o → s.heap.get? b = some o) {qual msg : Str} {sc : Scope} {kM : Nat} {kV doc pm ct oc ccl cl : Value} {od an cdd cld : Option Addr} {cda cc L x t0 : Addr} {osl ccs csl : Array (Option Value)} {vs : Array Value} {file : Str} {tf : Tok} {ps : Arguments} {body : List Stmt} {ar : Arg} {m : Str → Option Value} {q1 q2 q3 q4 q5 q6 : Pos} {Q : Flow → Shared → Prop} {E : Value → Shared → Prop}
    (lf : K.lookup fI = some ⟨oc, od, .func (ksFn "__init__" qual ps body sc .none kV doc pm an (.ref cda) ct cc), osl⟩) (hp : (ps.posonlyargs ++ ps.args).head? = some ar) (har : ar.arg = "self")
    (lc : K.lookup cda = some ⟨ccl, cdd, .fields vs, ccs⟩) (hvs : vs[2]? = some (.str file tf)) (hfile : ((prog.main.file : Str) == file) = true) (lcell : K.lookup cc = some ⟨cl, cld, .cell (some (.ref C)), csl⟩) (htop : (prog.main.scope.names.lookup ("super" : Str)).isSome = false)
    (hks : sc.names.lookup ("super" : Str) = some .globalImplicit) (hkc : sc.names.lookup ("__class__" : Str) = some .free) (hka : sc.names.lookup ("self" : Str) = some .local) (hl1 : (q3.endLine == q5.line) = true) (hk : sc.kind = .function) (hi : interactive (ksEnv qual sc L fI (.ref cda) cc) = false)
    (hn : s.heap.Ns L m) (hm : m "self" = some (.ref x)) (hx : s.heap.get? x = some (excO C t0))
    (hq : ∀ h' tk t1, (∀ b o, b ≠ x → s.heap.get? b = some o → h'.get? b = some o) → h'.get? x = some (excO C t1) → Q .next { s with heap := h', toks := tk }) :
    _root_.PySem.wpAt (model prog w) A (.func body (ksEnv qual sc L fI (.ref cda) cc)) (exec (iSup msg kM q1 q2 q3 q4 q5 q6) (ksEnv qual sc L fI (.ref cda) cc)) Q E s := by
  obtain ⟨nm, q, N, bs, sn, sub, ab, col, dd, k0, k1, k2, k3, k5, hC⟩ := T.cls
  have X : K.In s.heap := M.kin.keeps kb
  have hcl : clsIn K C = some { name := nm, bases := bs, mro := .ref C :: .ref W :: bmB, ns := N, qualname := q, hasDict := true, slotNames := sn, subclasses := sub, abstract := ab, collection := col, hasDel := false } := by unfold clsIn; rw [hC] <;> rfl
  obtain ⟨mb, hb1, hb2⟩ := M.blt
  have J : PySem.W.InstAt s.heap x (excO C t0) C none := ⟨hx, rfl, rfl, trivial⟩
  have hCh := X _ _ hC
  have hmC : mroIn K C (.ref C) = some true := by
    unfold mroIn
    rw [hcl, Option.bind_some]
    simp
  have hmB : mroIn K C (.type B) = some true := by
    unfold mroIn
    rw [hcl, Option.bind_some, if_neg (show ¬ (List.isEmpty (Value.ref C :: Value.ref W :: bmB) = true) from Bool.false_ne_true)]
    show some ((Value.ref C :: Value.ref W :: bmB).contains (.type B)) = some true
    rw [List.contains_cons, List.contains_cons, Z.fb.hasB, Bool.or_true, Bool.or_true]
  unfold iSup
  refine ks_wpAt_Expr_any ?_ hi
  refine ks_wpAt_MethodCall (pl := L2.plainOf (.Call (.Name "super" q1) [] [] q2) (ksEnv qual sc L fI (.ref cda) cc)) ?_ ?he
  case he =>
    have e1 := fun ov => L2.mcall_line (o := .Call (.Name "super" q1) [] [] q2) (m := "__init__") (apos := q3) (pos := q5) (env := ksEnv qual sc L fI (.ref cda) cc) (ov := ov) (n := 1) (args := backTo q5 (starEach [.Constant (.str msg) kM q4] (ksEnv qual sc L fI (.ref cda) cc))) (kws := []) (by rfl) hl1
    show (attributeBase _ _ _ _ >>= fun ov => standAt q3.atName >>= fun _ => methodCall _ _ _ _ _ ov _ _ _) = _
    refine congrArg _ (funext fun ov => congrArg _ (funext fun _ => ?_))
    exact e1 ov
  refine ks_wpAt_super_base (env := ksEnv qual sc L fI (.ref cda) cc) hks hkc (by decide) rfl (X _ _ lf) rfl hp rfl (X _ _ lc) rfl hvs hfile htop ?_
  refine ks_loadName_global hk hks (loadGlobal_builtin (env := ksEnv qual sc L fI (.ref cda) cc) (M.glob.keeps kb) T.su (hb1.keeps kb) ((hb2 _ (by decide +kernel)).trans (by first | boot_by_name | rfl | kernel_rfl)) ⟨rfl, ?_⟩)
  refine wpAny_loadName_free hk hkc rfl ⟨_, X _ _ lcell, rfl⟩ ?_
  rw [har]
  refine wpAny_loadName_local hk hka hn hm ?_
  refine ks_wpAny_isType_cls hCh rfl ⟨rfl, ?_⟩
  obtain ⟨hh, g, d, t, os⟩ := s
  refine ks_wpAny_call_super hCh rfl J.at_ J.cls (fun c e => ?_) (looks_mroIn X hmC) (fun h1 e1 kk1 => ?_)
  · cases e
  have X1 : K.In h1 := X.keeps kk1
  have J1 : PySem.W.InstAt h1 x (excO C t0) C none := ⟨kk1 _ _ hx, rfl, rfl, trivial⟩
  have hI : Looks (model prog w) h1 (isInstance (.ref x) (.type B)) true := J1.type.andThen (looks_mroIn X1 hmB)
  have hxC : x ≠ C := ks_ne X J hcl
  refine kxs_getMethod Z.kx e1 (looks_opaque X1 T.th) (l₀ := .ref C :: .ref W :: bmB) ?_ rfl X1 (name := "__init__") ?_ hI hxC (by decide) ?_
  · exact fun A Q E s k q => wpAny_bind ((looks_clsIn X1 hcl) A _ E s k (wpAny_pure q))
  · have e0 : ((Value.ref C :: Value.ref W :: bmB).dropWhile (· != .ref C)).drop 1 = .ref W :: bmB := by simp [List.dropWhile_cons]
    rw [e0]
    exact T.al
  refine kxs_callWith (i := initId) (x := x) (by rfl) ?_
  show wpAny _ _ (evalArgs _ true ((false, eval (.Constant (.str msg) kM q4) (ksEnv qual sc L fI (.ref cda) cc)) :: []) []) _ _ _
  refine evalArgs_plain (spliced_cons (wpAny_Constant_str (spliced_nil ⟨Heap.get?_push_at rfl rfl, ?_⟩)))
  have up2 : ∀ b o, h1.get? b = some o → (h1.push (kxs_mw initId x)).get? b = some o := fun b o e => Heap.get?_push_of_some _ e
  refine wpAny_call (codeAny_of_tree ?_)
  show wpAny _ A.in1 (callAny (.ref _) ⟨[.str msg _], []⟩) _ _ _
  simp only [callAny]
  refine wpAny_bind (wpAny_load (Heap.get?_push_at rfl rfl) ?_)
  simp only [kxs_mw, show (Value.type "method-wrapper" == Value.type "method" || Value.type "method-wrapper" == Value.type "builtin_function_or_method" || Value.type "method-wrapper" == Value.type "method-wrapper") = true by decide, if_true]
  refine KFB.if_so (by decide) ?_
  refine wpAny_bind (check_bound_init Z.fb.toExcCallFacts (up2 _ _ (kk1 _ _ hCh)) (up2 _ _ (kk1 _ _ hx)) rfl ?_)
  refine wpAny_bind (wpAny_pure (wpAny_pure ?_))
  refine ⟨plainId_quiet Z.fb.init.plain _, codeAny_builtin Z.fb.initEntry ?_⟩
  refine exc_init_tree (cls := .ref C) (t0 := t0) (dv := none) (c2 := .none) (c3 := .none) (b4 := .bool false) (up2 _ _ (kk1 _ _ hx)) (by show 1 ≤ sizeLine; rw [sizeLine_eq]; omega) fun h2 k2' he' _ => ?_
  exact hq h2 _ _ (fun b o hb e => k2' b o hb (up2 _ _ (kk1 _ _ e))) he'
end
end Fx
set_option Elab.async false
set_option linter.all false
set_option maxRecDepth 100000
set_option maxHeartbeats 4000000
namespace Fx
open PySem PySem.W PySem.Calls PyProof.Rows PySem.HandSPX
open Builtin Builtin.ObjectAttr
/-- an error made: at x, its dict at dx with the one attribute -/
abbrev excD (C t : Addr) (dx : Option Addr) : Obj := { cls := .ref C, dict := dx, data := .fields #[.ref t, .none, .none, .none, .bool false, .none] }
theorem cellS1 (f : Str) : ∀ y ∈ (iS1 f).names, y.2 ≠ .cell := by
  intro y hy
  simp only [iS1, List.mem_cons, List.not_mem_nil, or_false] at hy
  rcases hy with rfl | rfl | rfl | rfl <;> exact fun z => nomatch z
theorem locS1 {f : Str} (hf : f = "given" ∨ f = "index") (a b : Value) : ∀ y ∈ [((Str.ofString "self" : Str), a), (f, b)], (iS1 f).names.lookup y.1 = some .local := by
  intro y hy
  simp only [List.mem_cons, List.not_mem_nil, or_false] at hy
  rcases hf with rfl | rfl <;> rcases hy with rfl | rfl <;> rfl
theorem cellS0 : ∀ y ∈ iS0.names, y.2 ≠ .cell := by
  intro y hy
  simp only [iS0, List.mem_cons, List.not_mem_nil, or_false] at hy
  rcases hy with rfl | rfl | rfl <;> exact fun z => nomatch z
theorem locS0 (a : Value) : ∀ y ∈ [((Str.ofString "self" : Str), a)], iS0.names.lookup y.1 = some .local := by
  intro y hy
  simp only [List.mem_cons, List.not_mem_nil, or_false] at hy
  subst hy
  rfl
section
variable {prog : Program} {w : World} {A : Around} {R : Result → Shared → Prop} {s : Shared} {B newId initId : String} {bmB : List Value} {K : Frag} {mg : Str → Option Value} {base : Heap} {C W fI : Addr}
theorem ldK {M : Model} {E : Value → Shared → Prop} {nm : Str} {sc : Scope} {L a cc : Addr} {cd : Value} {m : Str → Option Value} {y : Str} {pos : Pos} {v : Value} {Q : Value → Shared → Prop} (hn : s.heap.Ns L m) (hv : m y = some v) (h : Q v s)
    (hk : sc.kind = .function := by rfl) (hl : (ksEnv nm sc L a cd cc).kindOf y = some .local := by rfl) (hd : (y == ("__debug__" : Str)) = false := by decide) : wpAny M A (PySem.eval (.Name y pos) (ksEnv nm sc L a cd cc)) Q E s :=
  wpAny_Name (wpAny_loadName_local hk hl hn hv h) hd
theorem init1 (Z : Root B newId initId bmB) (T : ErrT K mg newId initId bmB C W fI) (M : L2.Mod K mg base) (kb : ∀ b o, base.get? b = some o → s.heap.get? b = some o) {f : Str} (hf : f = "given" ∨ f = "index") (noF : findIn K (.ref C) f = some none)
    (N : Fn1 prog K C fI f) {x t0 : Addr} {v : Value} {args : Args} (hb : args = ⟨[.ref x, v], []⟩ ∨ args = ⟨[.ref x], [(f, v)]⟩) (hx : s.heap.get? x = some (excO C t0)) (hnx : base.get? x = none) (hroom : A.depth < recursionLimit)
    (hq : ∀ h' tk dx t1, (∀ b o, b ≠ x → s.heap.get? b = some o → h'.get? b = some o) → h'.get? x = some (excD C t1 (some dx)) → s.heap.objs.size ≤ dx → dx ≠ x → h'.Ns1 dx (fun y => if y = f then some v else none) → R (.ok (.ret .none)) { s with heap := h', toks := tk }) :
    codeAny (model prog w) A (.call (.ref fI) args) R s := by
  obtain ⟨oc, od, qual, msg, kM, kV, doc, pm, an, cda, cc, ct, osl, p1, p2, q1, q2, q3, q4, q5, q6, r1, r2, r3, r4, vs, file, tf, ccl, cl, cdd, cld, ccs, csl, lf, lcd, lc, hvs, hfile, lcell, htop, hl1⟩ := N
  obtain ⟨nm, q, N, bs, sn, sub, ab, col, dd, k0, k1, k2, k3, k5, hC⟩ := T.cls
  have X : K.In s.heap := M.kin.keeps kb
  have hcl : clsIn K C = some { name := nm, bases := bs, mro := .ref C :: .ref W :: bmB, ns := N, qualname := q, hasDict := true, slotNames := sn, subclasses := sub, abstract := ab, collection := col, hasDel := false } := by unfold clsIn; rw [hC] <;> rfl
  rcases hf with rfl | rfl
  all_goals
    refine ks_codeAny_call_defAt (fd := ksFn "__init__" qual (iA1 _ p1 p2) [iSup msg kM q1 q2 q3 q4 q5 q6, iSet _ r1 r2 r3 r4] (iS1 _) .none kV doc pm an (.ref cda) ct cc) (body := [iSup msg kM q1 q2 q3 q4 q5 q6, iSet _ r1 r2 r3 r4]) (binds := [("self", .ref x), (_, v)]) hroom (X _ _ lf) rfl (M.nolimit.keeps kb) (codeRec_of X lcd) rfl (by rcases hb with rfl | rfl <;> exact .of_eq rfl) (cellS1 _) (locS1 (by first | exact .inl rfl | exact .inr rfl) _ _) (fun h₁ hns hk₁ => ?_) rfl rfl rfl
    refine ks_wpAt_execs_cons (sup_stmt Z T M (fun b o e => hk₁ b o (kb b o e)) lf rfl rfl lc hvs hfile lcell htop rfl rfl rfl hl1 rfl rfl hns (m := fun y => [((PySem.Str.ofString "self" : Str), Value.ref x), (_, v)].reverse.lookup y) (by rfl) (hk₁ _ _ hx) fun h₂ tk₂ t2 k₂ e₂ => ?_)
    refine wpAt_of_wpAny ?_
    have xL : s.heap.objs.size ≠ x := Nat.ne_of_gt (Heap.lt_size hx)
    have hns2 := hns
    obtain ⟨oL, es, ep, hL, rL⟩ := hns2
    have hns' : h₂.Ns s.heap.objs.size (fun y => [((PySem.Str.ofString "self" : Str), Value.ref x), (_, v)].reverse.lookup y) := ⟨oL, es, ep, k₂ _ _ xL hL, rL⟩
    have X₂ : K.In h₂ := fun b o e => k₂ b o (fun z => by
      have y := M.kin b o e
      rw [z, hnx] at y
      cases y) (hk₁ b o (X b o e))
    refine wpAny_execs_cons (plainObj_wpAny_Assign_Attribute ?_)
    refine ldK (v := v) hns' (by rfl) (ldK (v := .ref x) hns' (by rfl) ?_)
    refine set_plain X₂ (ox := excO C t2) (od := none) ⟨e₂, rfl, rfl, trivial⟩ T.sa ?_
    refine osa Z X₂ e₂ hcl rfl rfl noF fun h₃ tk₃ dx k₃ dn dne hx₃ hn₃ => ?_
    show wpAny _ _ (execs _ _) _ _ _
    refine wpAny_execs_nil (hq h₃ tk₃ dx t2 (fun b o hb e => k₃ b o hb (k₂ b o hb (hk₁ b o e))) hx₃ ?_ dne hn₃)
    exact Nat.le_trans (Nat.le_of_lt hns'.lt) dn
end
end Fx
set_option Elab.async false
set_option linter.all false
set_option maxRecDepth 100000
set_option maxHeartbeats 4000000
namespace Fx
open PySem PySem.W PySem.Calls PyProof.Rows PySem.HandSPX
open Builtin Builtin.ObjectAttr
/-! a class of errors called, with any positional and keyword arguments -/
section
variable {M : Model} {A : Around} {E : Value → Shared → Prop} {g0 : Heap} {gs : Array GenState} {dr : Drawn} {tk0 : Nat} {oz : OsState}
variable {nm qn : Str} {C N : Addr} {bs bm bmB : List Value} {hdct : Bool} {sn : List Str} {sub : List Value} {ab : Bool} {col : Option Bool} {dd : Option Addr} {k0 k1 k2 k3 k5 : Option Value} {B newId initId : String}
theorem kw_check (F : ExcBaseFacts B newId initId bmB) (hT : ∀ y : String, bm.contains (.type y) = bmB.contains (.type y)) {rest : List Value} {kw : List (Str × Value)} {Q : Unit → Shared → Prop}
    (hC : g0.get? C = some (excClassObj nm qn C N bs bm hdct sn sub ab col dd k0 k1 k2 k3 k5 newId)) (hq : Q () ⟨g0, gs, dr, tk0, oz⟩) : wpAny M A (checkBuiltinCall newId ⟨.ref C :: rest, kw⟩) Q E ⟨g0, gs, dr, tk0, oz⟩ := by
  have hB : (Value.ref C :: bm).contains (.type B) = true := by
    rw [List.contains_cons, hT, F.hasB, Bool.or_true]
  have hns := F.noStar
  simp only [checkBuiltinCall, F.newKind, F.newSplit, F.newRow]
  repeat (first | refine wpAny_loadPart_at hC ?_ | (refine wpAny_isSubtype_exc hC ?_; rw [hB]) | refine wpAny_staticBase_exc hC ?_ | refine wpAny_madeBy_exc hC ?_ | simp only [bne_self_eq_false, Bool.false_eq_true, if_false] | wp_step)
  first
    | exact hq
    | skip
end
section
variable {prog : Program} {w : World} {A : Around} {E : Value → Shared → Prop} {R : Result → Shared → Prop} {g0 : Heap} {gs : Array GenState} {dr : Drawn} {tk0 : Nat} {oz : OsState}
variable {nm qn : Str} {C N : Addr} {bs bm bmB : List Value} {hdct : Bool} {sn : List Str} {sub : List Value} {ab : Bool} {col : Option Bool} {dd : Option Addr} {k0 k1 k2 k3 k5 : Option Value} {B newId initId : String}
theorem kw_new (F : ExcBaseFacts B newId initId bmB) (hT : ∀ y : String, bm.contains (.type y) = bmB.contains (.type y)) {rest : List Value} {kw : List (Str × Value)}
    (hC : g0.get? C = some (excClassObj nm qn C N bs bm hdct sn sub ab col dd k0 k1 k2 k3 k5 newId))
    (hq : R (.ok (.ret (.ref (g0.objs.size + 1)))) ⟨(g0.push (kdv_tup rest)).push (excO C g0.objs.size), gs, dr, tk0, oz⟩) (hz : rest.length ≤ sizeLine) :
    codeAny (model prog w) A (.builtin newId ⟨.ref C :: rest, kw⟩) R ⟨g0, gs, dr, tk0, oz⟩ := by
  have he := F.ends
  have hB : (Value.ref C :: bm).contains (.type B) = true := by
    rw [List.contains_cons, hT, F.hasB, Bool.or_true]
  have hA : (Value.ref C :: bm).contains (.type "AttributeError") = false := by
    rw [List.contains_cons, hT, F.noAttr]
    rfl
  have hN : (Value.ref C :: bm).contains (.type "NameError") = false := by
    rw [List.contains_cons, hT, F.noName]
    rfl
  refine codeAny_builtinAt F.entry ?_
  unfold Builtin.«BaseException.__new__»
  refine _root_.PySem.wpAt_bind ?_
  show _root_.PySem.wpAt _ _ _ (stack >>= _) _ _ _
  refine _root_.PySem.wpAt_bind (_root_.PySem.wpAt_stack fun p below => _root_.PySem.wpAt_of_wpAny ?_)
  wp_walk
  refine _root_.PySem.wpAt_of_wpAny ?_
  rw [F.owner]
  repeat (first | with_reducible refine wpAny_madeHere_exc F.canon hC ?_ | with_reducible refine wpAny_loadPart_at hC ?_ | (with_reducible refine wpAny_isSubtype_exc hC ?_; first | rw [hB] | rw [hA] | rw [hN]) | wp_step)
  show R _ _
  rw [Heap.size_push]
  exact hq
theorem kw_type (F : ExcBaseFacts B newId initId bmB) (hT : ∀ y : String, bm.contains (.type y) = bmB.contains (.type y)) {rest : List Value} {kw : List (Str × Value)} {fI : Addr} {Q : Fin → Shared → Prop}
    (hC : g0.get? C = some (excClassObj nm qn C N bs bm hdct sn sub ab col dd k0 k1 k2 k3 k5 newId))
    (hi : Looks (model prog w) g0 (typeLookup (.ref C) "__init__") (some (.ref fI))) (hb : ∀ self, Looks (model prog w) g0 (bindSpecial (.ref fI) self) (.ref fI, [self])) (hz : rest.length ≤ sizeLine)
    (hq : codeAny (model prog w) A (.call (.ref fI) ⟨.ref (g0.objs.size + 1) :: rest, kw⟩)
      (fun r s' => match r with | .ok (.ret v) => v = .none ∧ Q (.done (.ret (.ref (g0.objs.size + 1)))) s' | .ok _ => False | .error e => E e s')
      ⟨(g0.push (kdv_tup rest)).push (excO C g0.objs.size), gs, dr, tk0, oz⟩) :
    wpAny (model prog w) A (Builtin.«type.__call__» ⟨.ref C :: rest, kw⟩) Q E ⟨g0, gs, dr, tk0, oz⟩ := by
  repeat (first | with_reducible refine wpAny_loadPart_at hC ?_ | with_reducible refine wpAny_madeBy_exc hC ?_ | wp_step)
  refine codeAny_call_builtin_code (Code.quiet_builtin _ F.quiet) (kw_check F hT hC ?_)
  refine kw_new F hT hC ?_ hz
  show wpAny _ _ _ _ _ _
  have k : ∀ b o, g0.get? b = some o → ((g0.push (kdv_tup rest)).push (excO C g0.objs.size)).get? b = some o := fun b o e => Heap.get?_push_of_some _ (Heap.get?_push_of_some _ e)
  have hC₁ := k _ _ hC
  have hget : ((g0.push (kdv_tup rest)).push (excO C g0.objs.size)).get? (g0.objs.size + 1) = some (excO C g0.objs.size) := by heap_get
  have hCC : (Value.ref C :: bm).contains (.ref C) = true := by simp
  have i1 := hi.keeps k
  have b1 := (hb (.ref (g0.objs.size + 1))).keeps k
  unfold isInstance
  repeat (first | with_reducible refine wpAny_loadPart_at hget ?_ | (with_reducible refine wpAny_isSubtype_exc hC₁ ?_; rw [hCC]) | wp_step)
  show wpAny _ _ (typeLookup (.ref C) _) _ _ _
  refine i1.at ?_
  refine wpAny_holding (wpAny_bind (b1.at ?_))
  refine wpAny_bind (wpAny_call (codeAny_mono hq fun r s' z => ?_))
  rcases r with e | (v | _ | _ | _) <;> first | exact z | exact z.elim | skip
  obtain ⟨rfl, z⟩ := z
  first
    | exact wpAny_pure (wpAny_pure z)
    | (wp_walk; exact z)
theorem kw_call (F : ExcBaseFacts B newId initId bmB) (hT : ∀ y : String, bm.contains (.type y) = bmB.contains (.type y)) {rest : List Value} {kw : List (Str × Value)} {fI : Addr}
    (hC : g0.get? C = some (excClassObj nm qn C N bs bm hdct sn sub ab col dd k0 k1 k2 k3 k5 newId))
    (hi : Looks (model prog w) g0 (typeLookup (.ref C) "__init__") (some (.ref fI))) (hb : ∀ self, Looks (model prog w) g0 (bindSpecial (.ref fI) self) (.ref fI, [self])) (hz : rest.length ≤ sizeLine)
    (hq : codeAny (model prog w) (A.under (.builtin "type.__call__" ⟨.ref C :: rest, kw⟩)) (.call (.ref fI) ⟨.ref (g0.objs.size + 1) :: rest, kw⟩) (InitBack (g0.objs.size + 1) R)
      ⟨(g0.push (kdv_tup rest)).push (excO C g0.objs.size), gs, dr, tk0, oz⟩) :
    codeAny (model prog w) A (.call (.ref C) ⟨rest, kw⟩) R ⟨g0, gs, dr, tk0, oz⟩ := by
  have f1 := tc_lookup
  have f2 := tc_bind (.ref C)
  have hTy : (⟨g0, gs, dr, tk0, oz⟩ : Shared).TypeIs (.ref C) "type" := ⟨_, hC, rfl⟩
  refine codeAny_of_tree ?_
  show wpAny _ _ (callAny (.ref C) _) _ _ _
  repeat (any_goals (first | assumption | with_reducible refine wpAny_loadPart_at hC ?_ | wp_step))
  refine ⟨rfl, ?_⟩
  refine codeAny_call_builtin_at (Code.quiet_builtin _ (by decide +kernel)) entry_typeCall (wpAny_check_type_call_sub hC (kw_type F hT hC hi hb hz ?_))
  refine codeAny_mono hq fun r s' z => ?_
  rcases r with e | (v | _ | _ | _) <;> exact z
end
end Fx
set_option Elab.async false
set_option linter.all false
set_option maxRecDepth 100000
set_option maxHeartbeats 4000000
namespace Fx
open PySem L2
open PySem.W (Frag)
/-- what the walk asks of a class of errors with one attribute f -/
structure Err1 (prog : Program) (K : Frag) (mg : Str → Option Value) (newId initId : String) (bmB : List Value) (C W fI : Addr) (f : Str) : Prop where
  t : ErrT K mg newId initId bmB C W fI
  n : Fn1 prog K C fI f
  no : PySem.W.findIn K (.ref C) f = some none
  ff : f = "given" ∨ f = "index"
section
variable {X : Cx} {pins : List (Addr × Obj)} {σ : St} {H : Hp} {s : Shared} {B newId initId : String} {bmB : List Value} {C W fI : Addr} {f : Str} {k : Nat}
theorem hT_of (Z : Root B newId initId bmB) (W : Addr) : ∀ y : String, (Value.ref W :: bmB).contains (.type y) = bmB.contains (.type y) := fun y => by
  rw [List.contains_cons]
  rfl
/-- what stands new: the error at a, its dict at d -/
theorem err_laid (I : Inv X pins σ H s) {h' : Heap} {a d t1 : Addr} {mA : Str → Option Value} {fs : List (Str × V)} {tk : Nat} (k : ∀ b o, s.heap.get? b = some o → h'.get? b = some o) (ha : s.heap.objs.size ≤ a) (hd : s.heap.objs.size ≤ d) (ne : d ≠ a)
    (ea : h'.get? a = some (excD C t1 (some d))) (ed : h'.Ns1 d mA) (rel : ∀ g, RelO (fs.lookup g) (mA g)) :
    H a = none ∧ H d = none ∧ Inv X pins σ (upd (upd H d (exd d fs)) a (exo a C (some d))) { s with heap := h', toks := tk } := by
  have na : H a = none := I.hok.fresh ha
  have nd : H d = none := I.hok.fresh hd
  have la : ∀ {b : Addr} {o : Obj}, s.heap.get? b = some o → b ≠ a := fun {b o} q => Nat.ne_of_lt (Nat.lt_of_lt_of_le (Heap.lt_size q) ha)
  have ld : ∀ {b : Addr} {o : Obj}, s.heap.get? b = some o → b ≠ d := fun {b o} q => Nat.ne_of_lt (Nat.lt_of_lt_of_le (Heap.lt_size q) hd)
  have up : ∀ {b : Addr}, b ≠ a → b ≠ d → (upd (upd H d (exd d fs)) a (exo a C (some d))) b = H b := fun {b} h1 h2 => by
    rw [upd_ne h1, upd_ne h2]
  have us : ∀ {b : Addr} {o : HO}, H b = some o → (upd (upd H d (exd d fs)) a (exo a C (some d))) b = some o := fun {b o} q => by
    rw [up (ne_of_none q na) (ne_of_none q nd)]
    exact q
  refine ⟨na, nd, I.un (t' := tk) ⟨fun b o q _ _ _ => k b o q, fun b o q _ _ _ => ⟨o.slots, k b o q⟩, fun b o q n _ => ?_, fun b o q _ => ⟨o, k b o q⟩, fun b xs q => us q, fun b o v q => us q, fun b ps q => ⟨#[], by rw [us q]; simp⟩⟩ fun b o q => ?_⟩
  · rw [up (la q) (ld q)]
    exact n
  · by_cases h1 : b = a
    · subst h1
      rw [upd_same] at q
      cases q
      exact exo_ok ea
    · rw [upd_ne h1] at q
      by_cases h2 : b = d
      · subst h2
        rw [upd_same] at q
        cases q
        exact exd_ok ed rel
      · rw [upd_ne h2] at q
        exact (I.hok b o q).stay (fun c v _ z => k c v z) (fun c z => us z) fun c xs z => us z
theorem run_err (Z : Root B newId initId bmB) (T : Err1 X.prog X.K X.mg newId initId bmB C W fI f) (hr : Room (k + 1) X.A) (I : Inv X pins σ H s) {y : V} {u : Value} (ry : RelV y u) {pos : List Value} {kw : List (Str × Value)}
    (ha : (pos = [u] ∧ kw = []) ∨ (pos = [] ∧ kw = [(f, u)])) {Q : VK} (h : ∀ a d, H a = none → H d = none → d ≠ a → Q (.ref a) (upd (upd H d (exd d [(f, y)])) a (exo a C (some d)))) :
    wpAny (model X.prog X.w) X.A (call (.ref C) pos kw) (EP X pins σ Q) X.xe s := by
  obtain ⟨nm, q, N, bs, sn, sub, ab, col, dd, k0, k1, k2, k3, k5, hC⟩ := T.t.cls
  obtain ⟨hp, g, dr, tk, os⟩ := s
  have kk : ∀ b o, hp.get? b = some o → ((hp.push (PySem.W.kdv_tup pos)).push (PySem.HandSPX.excO C hp.objs.size)).get? b = some o := fun b o e => Heap.get?_push_of_some _ (Heap.get?_push_of_some _ e)
  have hget : ((hp.push (PySem.W.kdv_tup pos)).push (PySem.HandSPX.excO C hp.objs.size)).get? (hp.objs.size + 1) = some (PySem.HandSPX.excO C hp.objs.size) := by heap_get
  have hz : pos.length ≤ sizeLine := by
    rw [sizeLine_eq]
    rcases ha with ⟨rfl, _⟩ | ⟨rfl, _⟩
    · show 1 ≤ 16777216
      decide
    · show 0 ≤ 16777216
      decide
  have nb : X.base.get? (hp.objs.size + 1) = none := by
    cases e : X.base.get? (hp.objs.size + 1) with
    | none => rfl
    | some o =>
      have z : hp.get? (hp.objs.size + 1) = some o := I.bk _ _ e
      exact absurd (Nat.lt_of_succ_lt (Heap.lt_size z)) (Nat.lt_irrefl _)
  have args : (Args.mk (Value.ref (hp.objs.size + 1) :: pos) kw) = ⟨[.ref (hp.objs.size + 1), u], []⟩ ∨ (Args.mk (Value.ref (hp.objs.size + 1) :: pos) kw) = ⟨[.ref (hp.objs.size + 1)], [(f, u)]⟩ := by
    rcases ha with ⟨rfl, rfl⟩ | ⟨rfl, rfl⟩
    · exact .inl rfl
    · exact .inr rfl
  refine wpAny_call (kw_call Z.fb (hT_of Z W) (I.kIn _ _ hC) (PySem.W.looks_findIn I.kIn T.t.iC) (fun self => PySem.W.bind_fn I.kIn self T.t.tI) hz ?_)
  refine init1 (s := ⟨(hp.push (PySem.W.kdv_tup pos)).push (PySem.HandSPX.excO C hp.objs.size), g, dr, tk, os⟩) Z T.t I.ok.mod (fun b o e => kk b o (I.bk b o e)) T.ff T.no T.n args hget nb ?_ fun h' tk' dx t1 k1 e1 dn dne hn => ?_
  · rw [make_depth]
    have := hr.dp
    omega
  · have old : ∀ b o, hp.get? b = some o → h'.get? b = some o := fun b o e => k1 b o (Nat.ne_of_lt (Nat.lt_succ_of_lt (Heap.lt_size e))) (kk b o e)
    have sz : hp.objs.size ≤ dx := by
      have z : ((hp.push (PySem.W.kdv_tup pos)).push (PySem.HandSPX.excO C hp.objs.size)).objs.size ≤ dx := dn
      rw [Heap.size_push, Heap.size_push] at z
      omega
    obtain ⟨na, nd, J⟩ := err_laid (fs := [(f, y)]) (tk := tk') I old (Nat.le_succ _) sz dne e1 hn (relO_put (fs := []) (mA := fun _ => none) ry fun g => True.intro)
    exact ⟨rfl, .ref (hp.objs.size + 1), _, J, rfl, h _ _ na nd dne⟩
end
end Fx
set_option Elab.async false
set_option linter.all false
set_option maxRecDepth 100000
set_option maxHeartbeats 4000000
namespace Fx
open PySem L2
open PySem.W (Frag)
section
variable {X : Cx} {pins : List (Addr × Obj)} {σ : St} {H : Hp} {s : Shared} {B newId initId : String} {bmB : List Value} {C W fI : Addr} {f : Str} {k : Nat} {x : Str} {p pos kpos : Pos} {e : Expr} {te : TE}
/-- C(e), C(f=e): a new error at a, its dict at d -/
def tErr (C : Addr) (f : Str) (te : TE) : TE := fun σ H Q => te σ H fun y H1 => ∀ a d, H1 a = none → H1 d = none → d ≠ a → Q (.ref a) (upd (upd H1 d (exd d [(f, y)])) a (exo a C (some d)))
theorem pe_err (Z : Root B newId initId bmB) (T : Err1 X.prog X.K X.mg newId initId bmB C W fI f) (hr : Room (k + 1) X.A) (gC : X.mg x = some (.ref C)) (hg : Gl X x) (he : PE X e te) (hs : starEach [e] X.env = (false, eval e X.env) :: starEach [] X.env := by rfl)
    (hdb : (x == ("__debug__" : Str)) = false := by decide) : PE X (.Call (.Name x p) [e] [] pos) (tErr C f te) := by
  refine ⟨fun pins s σ H Q I h => ?_⟩
  refine wpAny_Call_Name_kw (ld_glob I hg gC ?_ hdb)
  refine PySem.W.callWith_K (h₀ := X.base) I.ok.mod.kin T.t.kC ?_ hs (by rfl)
  rw [hs]
  show wpAny _ _ (spliced ((false, eval e X.env) :: backTo pos (starEach [] X.env))) _ _ s
  refine Calls.spliced_cons (thn (he.run pins s σ H _ I h) fun u s1 ⟨y, H1, I1, r1, q1⟩ => ?_)
  refine Calls.spliced_nil ⟨I1.kIn, ?_⟩
  exact run_err Z T hr I1 r1 (.inl ⟨rfl, rfl⟩) q1
theorem pe_errK (Z : Root B newId initId bmB) (T : Err1 X.prog X.K X.mg newId initId bmB C W fI f) (hr : Room (k + 1) X.A) (gC : X.mg x = some (.ref C)) (hg : Gl X x) (he : PE X e te)
    (hdb : (x == ("__debug__" : Str)) = false := by decide) : PE X (.Call (.Name x p) [] [⟨some f, e, kpos⟩] pos) (tErr C f te) := by
  refine ⟨fun pins s σ H Q I h => ?_⟩
  refine wpAny_Call_Name_kw (ld_glob I hg gC ?_ hdb)
  refine PySem.W.callWith_KW0 (h₀ := X.base) I.ok.mod.kin T.t.kC (by rfl) ?_ (by rfl)
  have hk : PK X [⟨some f, e, kpos⟩] (tCons te tNil) := pk_cons he pk_nil
  refine thn (hk.run pos pins s σ H (fun vs H1 => match vs with | [y] => ∀ a d, H1 a = none → H1 d = none → d ≠ a → Q (.ref a) (upd (upd H1 d (exd d [(f, y)])) a (exo a C (some d))) | _ => False) I h) fun us s1 ⟨vs, H1, I1, r1, q1⟩ => ⟨I1.kIn, ?_⟩
  cases r1 with
  | nil => exact q1.elim
  | cons ry rn =>
    cases rn with
    | nil => exact run_err Z T hr I1 ry (.inr ⟨rfl, rfl⟩) q1
    | cons r2 rn => exact q1.elim
end
/-- an error stands at a -/
def IsE (H : Hp) (a C : Addr) : Prop := (∃ dd fs, H a = some (exo a C (some dd)) ∧ H dd = some (exd dd fs)) ∨ H a = some (exo a C none) ∨ H a = some (ExO (.ref C) a)
/-- what the class says, so that isinstance asks its errors rightly -/
structure IsC (K : Frag) (C : Addr) : Prop where
  cl : (PySem.W.clsIn K C).isSome = true
  ga : PySem.W.findIn K (.ref C) "__getattribute__" = some (some (.builtin "BaseException.__getattribute__"))
  gg : PySem.W.findIn K (.ref C) "__getattr__" = some none
  ex : PySem.W.subIn K (.ref C) (.type "BaseException") = some true
  ha : PySem.W.findIn K (.ref C) "__class__" = some (some (.builtin "object.__class__"))
  hn : PySem.W.specialIn K (.builtin "object.__class__") "__get__" = some (some (.builtin "getset_descriptor.__get__"))
  ht : PySem.W.takesIn K (.builtin "object.__class__") = some true
  hm : PySem.W.mroIn K C (.type "object") = some true
section
variable {X : Cx} {pins : List (Addr × Obj)} {σ : St} {H : Hp} {s : Shared} {a C : Addr}
theorem isE_inst (I : Inv X pins σ H s) (h : IsE H a C) : ∃ ox od, PySem.W.InstAt s.heap a ox C od := by
  rcases h with ⟨dd, fs, h1, h2⟩ | h1 | h1
  · obtain ⟨t1, e1⟩ := exo_at I.hok h1
    obtain ⟨mA, ⟨od, es, ep, e2, _⟩, _⟩ := exd_at I.hok h2
    exact ⟨_, some od, e1, rfl, rfl, e2⟩
  · obtain ⟨t1, e1⟩ := exo_at I.hok h1
    exact ⟨_, none, e1, rfl, rfl, trivial⟩
  · have z : ObjOk X.prog X.w H s.heap a (ExO (.ref C) a) := I.hok a _ h1
    obtain ⟨⟨oe, vs, ho, hz, hd, _⟩, _, _⟩ := z
    obtain ⟨oc, od, oda, osl⟩ := oe
    obtain ⟨z1, z2⟩ := hz
    dsimp only at z1 z2 hd
    subst z1 z2 hd
    exact ⟨_, none, ho, rfl, rfl, trivial⟩
/-- isinstance(e, c), e an error -/
def rIsE (K : Frag) : List V → Hp → VK → Prop := fun xs H Q => ∃ (a C : Addr) (c : V) (u : Value) (b : Bool), xs = [.ref a, c] ∧ ClsV c u ∧ IsE H a C ∧ IsC K C ∧ PySem.W.kitOne K (.ref C) u = some b ∧ Q (.bl b) H
theorem call_isE {X : Cx} : CallR X (.builtin "isinstance") (rIsE X.K) := by
  intro pins s σ H xs us Q I r h
  obtain ⟨a, C, c, u, b, rfl, kc, ie, T, e, q⟩ := h
  obtain ⟨u1, u2, rfl, r1, r2⟩ := vals2 r
  have e2 := kc.eq r2
  subst e2
  cases (show u1 = Value.ref a from r1)
  obtain ⟨ox, od, J⟩ := isE_inst I ie
  exact PySem.W.kia_one (PySem.W.kitx_exc (gt := none) T.cl T.ga T.gg T.ex T.ha T.hn T.ht T.hm) I.kIn J e (fun z => nomatch z) fun tk => ⟨.bl b, H, I.tok tk, rfl, q⟩
/-- e.f, e an error with a dict -/
def tEf (K : Frag) (f : Str) (te : TE) : TE := fun σ H Q => te σ H fun x H1 => ∃ (a C dd : Addr) (fs : List (Str × V)) (v : V), x = .ref a ∧ H1 a = some (exo a C (some dd)) ∧ H1 dd = some (exd dd fs) ∧ fs.lookup f = some v ∧ XfC K C ∧ PySem.W.findIn K (.ref C) f = some none ∧ Q v H1
theorem pe_ef {X : Cx} {e : Expr} {te : TE} {pos : Pos} {n : Str} (he : PE X e te) (hb : attributeBase e n X.env (eval e X.env) = eval e X.env := by rfl) : PE X (.Attribute e n pos) (tEf X.K n te) := by
  refine ⟨fun pins s σ H Q I h => ?_⟩
  refine attr_of hb (thn (he.run pins s σ H _ I h) fun u s1 hh => ?_)
  obtain ⟨x, H1, I1, rx, a, C, dd, fs, v, ex, ea, ed, l, T, hno, q⟩ := hh
  subst ex
  obtain rfl : u = Value.ref a := rx
  obtain ⟨t1, e1⟩ := exo_at I1.hok ea
  obtain ⟨mA, hns, hr⟩ := exd_at I1.hok ed
  obtain ⟨od, ho, hl⟩ := lookIn_ns hns
  obtain ⟨u, hu, ru⟩ := RelO.some_of (v := v) (o := mA n) (by rw [← l]; exact hr n)
  have J : PySem.W.InstAt s1.heap a _ C (some od) := ⟨e1, rfl, rfl, ho⟩
  exact HandSPX.exc_get I1.kIn J T.ga T.gg T.exC (PySem.W.findObj_own T.hdC hno rfl (by rw [hl, hu])) (handed_of ru) ⟨v, H1, I1.tok _, ru, q⟩
end
end Fx
set_option Elab.async false
set_option linter.all false
set_option maxRecDepth 100000
set_option maxHeartbeats 4000000
namespace Fx
open PySem PySem.W PySem.Calls PyProof.Rows PySem.HandSPX
open Builtin Builtin.ObjectAttr
/-- an __init__ without parameters -/
def Fn0 (prog : Program) (K : Frag) (C fI : Addr) : Prop := ∃ (oc : Value) (od : Option Addr) (qual msg : Str) (kM : Nat) (kV doc pm : Value) (an : Option Addr) (cda cc : Addr) (ct : Value) (osl : Array (Option Value)) (p1 q1 q2 q3 q4 q5 q6 : Pos) (vs : Array Value) (file : Str) (tf : Tok) (ccl cl : Value) (cdd cld : Option Addr) (ccs csl : Array (Option Value)),
    K.lookup fI = some ⟨oc, od, .func (ksFn "__init__" qual (iA0 p1) [iSup msg kM q1 q2 q3 q4 q5 q6] iS0 .none kV doc pm an (.ref cda) ct cc), osl⟩ ∧ codeIn K (.ref cda) qual = true ∧
    K.lookup cda = some ⟨ccl, cdd, .fields vs, ccs⟩ ∧ vs[2]? = some (.str file tf) ∧ ((prog.main.file : Str) == file) = true ∧ K.lookup cc = some ⟨cl, cld, .cell (some (.ref C)), csl⟩ ∧ (prog.main.scope.names.lookup ("super" : Str)).isSome = false ∧ (q3.endLine == q5.line) = true
section
variable {prog : Program} {w : World} {A : Around} {R : Result → Shared → Prop} {s : Shared} {B newId initId : String} {bmB : List Value} {K : Frag} {mg : Str → Option Value} {base : Heap} {C W fI : Addr}
theorem init0 (Z : Root B newId initId bmB) (T : ErrT K mg newId initId bmB C W fI) (M : L2.Mod K mg base) (kb : ∀ b o, base.get? b = some o → s.heap.get? b = some o)
    (N : Fn0 prog K C fI) {x t0 : Addr} (hx : s.heap.get? x = some (excO C t0)) (hroom : A.depth < recursionLimit)
    (hq : ∀ h' tk t1, (∀ b o, b ≠ x → s.heap.get? b = some o → h'.get? b = some o) → h'.get? x = some (excD C t1 none) → R (.ok (.ret .none)) { s with heap := h', toks := tk }) :
    codeAny (model prog w) A (.call (.ref fI) ⟨[.ref x], []⟩) R s := by
  obtain ⟨oc, od, qual, msg, kM, kV, doc, pm, an, cda, cc, ct, osl, p1, q1, q2, q3, q4, q5, q6, vs, file, tf, ccl, cl, cdd, cld, ccs, csl, lf, lcd, lc, hvs, hfile, lcell, htop, hl1⟩ := N
  have X : K.In s.heap := M.kin.keeps kb
  refine ks_codeAny_call_defAt (fd := ksFn "__init__" qual (iA0 p1) [iSup msg kM q1 q2 q3 q4 q5 q6] iS0 .none kV doc pm an (.ref cda) ct cc) (body := [iSup msg kM q1 q2 q3 q4 q5 q6]) (binds := [("self", .ref x)]) hroom (X _ _ lf) rfl (M.nolimit.keeps kb) (codeRec_of X lcd) rfl (.of_eq rfl) cellS0 (locS0 _) (fun h₁ hns hk₁ => ?_) rfl rfl rfl
  refine ks_wpAt_execs_cons (sup_stmt Z T M (fun b o e => hk₁ b o (kb b o e)) lf rfl rfl lc hvs hfile lcell htop rfl rfl rfl hl1 rfl rfl hns (m := fun y => [((PySem.Str.ofString "self" : Str), Value.ref x)].reverse.lookup y) (by rfl) (hk₁ _ _ hx) fun h₂ tk₂ t2 k₂ e₂ => ?_)
  refine _root_.PySem.wpAt_of_wpAny ?_
  exact wpAny_execs_nil (hq h₂ tk₂ t2 (fun b o hb e => k₂ b o hb (hk₁ b o e)) e₂)
end
end Fx
namespace Fx
open PySem L2
open PySem.W (Frag)
section
variable {X : Cx} {pins : List (Addr × Obj)} {σ : St} {H : Hp} {s : Shared} {B newId initId : String} {bmB : List Value} {C W fI : Addr} {k : Nat} {x : Str} {p pos : Pos}
/-- C(), C's __init__ without parameters -/
theorem pe_err0 (Z : Root B newId initId bmB) (T : ErrT X.K X.mg newId initId bmB C W fI) (N : Fn0 X.prog X.K C fI) (hr : Room (k + 1) X.A) (gC : X.mg x = some (.ref C)) (hg : Gl X x)
    (hdb : (x == ("__debug__" : Str)) = false := by decide) : PE X (.Call (.Name x p) [] [] pos) (fun σ H Q => ∀ a, H a = none → Q (.ref a) (upd H a (exo a C none))) := by
  refine ⟨fun pins s σ H Q I h => ?_⟩
  refine wpAny_Call_Name_kw (ld_glob I hg gC ?_ hdb)
  refine PySem.W.callWith_K0 I.kIn T.kC ?_
  obtain ⟨nm, q, N', bs, sn, sub, ab, col, dd, k0, k1, k2, k3, k5, hC⟩ := T.cls
  obtain ⟨hp, g, dr, tk, os⟩ := s
  have kk : ∀ b o, hp.get? b = some o → ((hp.push (PySem.W.kdv_tup [])).push (PySem.HandSPX.excO C hp.objs.size)).get? b = some o := fun b o e => Heap.get?_push_of_some _ (Heap.get?_push_of_some _ e)
  have hget : ((hp.push (PySem.W.kdv_tup [])).push (PySem.HandSPX.excO C hp.objs.size)).get? (hp.objs.size + 1) = some (PySem.HandSPX.excO C hp.objs.size) := by heap_get
  show wpAny _ _ (call (.ref C) []) _ _ _
  refine wpAny_call (kw_call Z.fb (hT_of Z W) (I.kIn _ _ hC) (PySem.W.looks_findIn I.kIn T.iC) (fun self => PySem.W.bind_fn I.kIn self T.tI) (by show 0 ≤ sizeLine; exact Nat.zero_le _) ?_)
  refine init0 (s := ⟨(hp.push (PySem.W.kdv_tup [])).push (PySem.HandSPX.excO C hp.objs.size), g, dr, tk, os⟩) Z T I.ok.mod (fun b o e => kk b o (I.bk b o e)) N hget ?_ fun h' tk' t1 k1 e1 => ?_
  · rw [make_depth]
    have := hr.dp
    omega
  · have old : ∀ b o, hp.get? b = some o → h'.get? b = some o := fun b o e => k1 b o (Nat.ne_of_lt (Nat.lt_succ_of_lt (Heap.lt_size e))) (kk b o e)
    have na : H (hp.objs.size + 1) = none := I.hok.fresh (Nat.le_succ _)
    exact ⟨rfl, .ref (hp.objs.size + 1), _, I.laid (t' := tk') (a := hp.objs.size + 1) (o := exo (hp.objs.size + 1) C none) old (Nat.le_succ _) (exo_ok e1), rfl, h _ na⟩
/-- C(), C without an __init__ of its own -/
theorem pe_exc0 {bm0 : List Value} (F : ExcBaseFacts B newId initId bm0) (q : PySem.W.excIn X.K C bm0 newId = true) (gC : X.mg x = some (.ref C)) (kC : PySem.W.keepIn X.K (.ref C) = true) (hg : Gl X x)
    (hdb : (x == ("__debug__" : Str)) = false := by decide) : PE X (.Call (.Name x p) [] [] pos) (fun σ H Q => ∀ a, H a = none → Q (.ref a) (upd H a (ExO (.ref C) a))) := by
  refine ⟨fun pins s σ H Q I h => ?_⟩
  refine wpAny_Call_Name_kw (ld_glob I hg gC ?_ hdb)
  refine PySem.W.callWith_K0 I.kIn kC ?_
  show wpAny _ _ (call (.ref C) []) _ _ _
  obtain ⟨bm, N, nm, qn, bs, hdct, sn, sub, ab, col, dd, k0, k1, k2, k3, k5, mN, hC, hN, hni, T⟩ := exc_obj I.kIn q
  refine wpAny_call_exc_subT F T hC hN hni (fun h' a hm => ?_) (Nat.zero_le _)
  have hn : H a = none := I.hok.gone hm.new
  obtain ⟨t, ht, _, _⟩ := hm.there
  exact ⟨.ref a, upd H a (ExO (.ref C) a), I.laidN hm.keeps hm.new hn (exO_ok ht ⟨rfl, rfl⟩ rfl rfl rfl (show 4 < 6 by decide)), rfl, h a hn⟩
end
end Fx
set_option Elab.async false
set_option linter.all false
set_option maxRecDepth 100000
set_option maxHeartbeats 4000000
namespace Rl
open PySem PySem.Spec PyProof.Rows L2 Gd
/-! rules whose readings say of a new object only that it stands, and that all stands that stood -/
theorem same_new {H : Hp} {p : Addr} {o : HO} (n : H p = none) : Same H (upd H p o) := fun b u e => by
  rw [upd_ne (ne_of_none e n)]
  exact e
theorem Same.seqT {K : PySem.W.Frag} {H H' : Hp} {a : Addr} {xs : List V} (e : Same H H') (h : SqT K H a xs) : SqT K H' a xs := by
  rcases h with (h | ⟨o, h⟩) | h
  · exact .inl (.inl (e _ _ h))
  · exact .inl (.inr ⟨o, e _ _ h⟩)
  · exact .inr h
mutual
theorem dp_same {K : PySem.W.Frag} {H H' : Hp} (e : Same H H') : ∀ (d : PyData) {v : V}, Dp K H v d → Dp K H' v d
  | .none, _, h => by cases h; exact .non
  | .bool b, _, h => by cases h; exact .bl b
  | .int i, _, h => by cases h; exact .int i
  | .str z, _, h => by cases h; exact .str z
  | .list ds, _, h => by
    cases h with
    | lst hs ha => exact .lst (e.seq hs) (dp_sameAll e ds ha)
  | .tuple ds, _, h => by
    cases h with
    | tup hs ha => exact .tup (Same.seqT e hs) (dp_sameAll e ds ha)
  | .dict _, _, h => by cases h
theorem dp_sameAll {K : PySem.W.Frag} {H H' : Hp} (e : Same H H') : ∀ (ds : List PyData) {vs : List V}, DpAll K H vs ds → DpAll K H' vs ds
  | [], _, h => by cases h; exact .nil
  | d :: ds, _, h => by
    cases h with
    | cons h1 h2 => exact .cons (dp_same e d h1) (dp_sameAll e ds h2)
end
theorem rp_same {K : PySem.W.Frag} {H H' : Hp} (e : Same H H') {d : PyData} {v : V} (h : Rp K H v d) : Rp K H' v d := by
  rcases h with h | ⟨a, kvs, ds, rfl, ha, hp, rfl⟩
  · exact .inl (dp_same e d h)
  · exact .inr ⟨a, kvs, ds, rfl, e _ _ ha, hp, rfl⟩
/-- a new object o at p -/
def New (H : Hp) (p : Addr) (o : HO) (H' : Hp) : Prop := H p = none ∧ H' p = some o ∧ Same H H'
theorem New.mk' {H : Hp} {p : Addr} {o : HO} (n : H p = none) : New H p o (upd H p o) := ⟨n, upd_same, same_new n⟩
def tTupR (t : TA) : TE := fun σ H Q => t σ H fun xs H1 => xs.length ≤ 1000 ∧ ∀ p H2, New H1 p (.tup xs) H2 → Q (.ref p) H2
def tLstR (t : TA) : TE := fun σ H Q => t σ H fun xs H1 => xs.length ≤ 1000 ∧ ∀ p H2, New H1 p (.lst xs) H2 → Q (.ref p) H2
section
variable {X : Cx} {es : List Expr} {t : TA} {pos : Pos}
theorem sz1000 {n : Nat} (h : n ≤ 1000) : n ≤ sizeLine := Nat.le_of_lt (small1000 h)
theorem pe_tupR {x1} (h : PA X es t) : PE X (.Tuple es x1 pos) (tTupR t) := by
  refine ⟨fun pins s σ H Q I hq => ?_⟩
  refine wpAny_Tuple_spliced (thn (h.run pos pins s σ H _ I hq) fun us s1 ⟨xs, H1, I1, r, z, q⟩ => ⟨by rw [← r.length]; exact sz1000 z, ?_⟩)
  have hf : H1 s1.heap.objs.size = none := I1.hok.fresh (Nat.le_refl _)
  exact ⟨.ref s1.heap.objs.size, upd H1 s1.heap.objs.size (.tup xs), I1.laid (t' := s1.toks) (fun b u e => Heap.get?_push_of_some _ e) (Nat.le_refl _) ⟨sz1000 z, us, r, ⟨_, Heap.get?_push_size _ rfl, rfl, _, rfl⟩⟩, rfl, q _ _ (.mk' hf)⟩
theorem pe_lstR (h : PA X es t) : PE X (.List es pos) (tLstR t) := by
  refine ⟨fun pins s σ H Q I hq => ?_⟩
  refine wpAny_List_spliced (thn (h.run pos pins s σ H _ I hq) fun us s1 ⟨xs, H1, I1, r, z, q⟩ => ⟨by rw [← r.length]; exact sz1000 z, ?_⟩)
  have hf : H1 s1.heap.objs.size = none := I1.hok.fresh (Nat.le_refl _)
  exact ⟨.ref s1.heap.objs.size, upd H1 s1.heap.objs.size (.lst xs), I1.laid (t' := s1.toks) (fun b u e => Heap.get?_push_of_some _ e) (Nat.le_refl _) ⟨sz1000 z, us, 0, r, Heap.get?_push_size _ rfl⟩, rfl, q _ _ (.mk' hf)⟩
theorem pe_dnewR : PE X (.Dict [] [] pos) (fun σ H Q => ∀ p H2, New H p (.dK []) H2 → Q (.ref p) H2) :=
  ⟨fun pins s σ H Q I h => pe_dnewK.run pins s σ H Q I fun p np => h p _ (.mk' np)⟩
def rCatR : R2 := fun x y H Q => ∃ l b xs zs, x = .ref l ∧ y = .ref b ∧ H l = some (.lst xs) ∧ H b = some (.lst zs) ∧ xs.length + zs.length ≤ 1000 ∧ ∀ p H2, New H p (.lst (xs ++ zs)) H2 → Q (.ref p) H2
theorem op_catR : OpR X (binaryOp .Add) rCatR := by
  intro pins s σ H x y v u Q I rx ry h
  obtain ⟨l, b, xs, zs, e1, e2, h1, h2, z, q⟩ := h
  exact op_cat pins s σ H x y v u Q I rx ry ⟨l, b, xs, zs, e1, e2, h1, h2, sz1000 z, fun p np => q p _ (.mk' np)⟩
def rRepR : R2 := fun x y H Q => ∃ l k xs, x = .ref l ∧ y = .int k ∧ H l = some (.lst xs) ∧ 0 ≤ k ∧ k ≤ 100 ∧ xs.length * k.toNat ≤ 1000 ∧ ∀ p H2, New H p (.lst (List.replicate k.toNat xs).flatten) H2 → Q (.ref p) H2
theorem op_repR : OpR X (binaryOp .Mult) rRepR := by
  intro pins s σ H x y v u Q I rx ry h
  obtain ⟨l, k, xs, e1, e2, h1, h2, h3, z, q⟩ := h
  exact op_rep pins s σ H x y v u Q I rx ry ⟨l, k, xs, e1, e2, h1, by omega, by omega, sz1000 z, fun p np => q p _ (.mk' np)⟩
def rSlR (K : PySem.W.Frag) : V → Option Int → Option Int → Hp → VK → Prop := fun x lo hi H Q => ∃ a xs, x = .ref a ∧ SqL K H a xs ∧ ∀ p H2, New H p (.lst (cutV xs lo hi)) H2 → Q (.ref p) H2
theorem sl_listR : SlR X (rSlR X.K) := by
  intro pins s σ H x v vl vu lo hi sl Q I rx hs pl pu h
  obtain ⟨a, xs, e1, h1, q⟩ := h
  exact sl_list pins s σ H x v vl vu lo hi sl Q I rx hs pl pu ⟨a, xs, e1, h1, fun p np => q p _ (.mk' np)⟩
end
end Rl
namespace Fx
open PySem L2 Rl
open PySem.W (Frag)
/-- an error of the class at C with the one attribute f -/
def ErrAt (H : Hp) (a C : Addr) (f : Str) (y : V) : Prop := ∃ d, H a = some (exo a C (some d)) ∧ H d = some (exd d [(f, y)])
theorem ErrAt.same {H H' : Hp} (s : Same H H') {a C : Addr} {f : Str} {y : V} (h : ErrAt H a C f y) : ErrAt H' a C f y :=
  let ⟨d, h1, h2⟩ := h
  ⟨d, s _ _ h1, s _ _ h2⟩
theorem errAt_new {H : Hp} {a d C : Addr} {f : Str} {y : V} (na : H a = none) (nd : H d = none) (ne : d ≠ a) : ErrAt (upd (upd H d (exd d [(f, y)])) a (exo a C (some d))) a C f y ∧ Same H (upd (upd H d (exd d [(f, y)])) a (exo a C (some d))) :=
  ⟨⟨d, upd_same, by rw [upd_ne ne, upd_same]⟩, fun b u e => by rw [upd_ne (ne_of_none e na), upd_ne (ne_of_none e nd)]; exact e⟩
def tErrR (C : Addr) (f : Str) (te : TE) : TE := fun σ H Q => te σ H fun y H1 => ∀ a H2, ErrAt H2 a C f y → Same H1 H2 → Q (.ref a) H2
section
variable {X : Cx} {B newId initId : String} {bmB : List Value} {C W fI : Addr} {f : Str} {k : Nat} {x : Str} {p pos kpos : Pos} {e : Expr} {te : TE}
theorem pe_errR (Z : Root B newId initId bmB) (T : Err1 X.prog X.K X.mg newId initId bmB C W fI f) (hr : Room (k + 1) X.A) (gC : X.mg x = some (.ref C)) (hg : Gl X x) (he : PE X e te) (hs : starEach [e] X.env = (false, eval e X.env) :: starEach [] X.env := by rfl)
    (hdb : (x == ("__debug__" : Str)) = false := by decide) : PE X (.Call (.Name x p) [e] [] pos) (tErrR C f te) := by
  refine ⟨fun pins s σ H Q I h => ?_⟩
  refine wpAny_Call_Name_kw (ld_glob I hg gC ?_ hdb)
  refine PySem.W.callWith_K (h₀ := X.base) I.ok.mod.kin T.t.kC ?_ hs (by rfl)
  rw [hs]
  show wpAny _ _ (spliced ((false, eval e X.env) :: backTo pos (starEach [] X.env))) _ _ s
  refine Calls.spliced_cons (thn (he.run pins s σ H _ I h) fun u s1 ⟨y, H1, I1, r1, q1⟩ => ?_)
  exact Calls.spliced_nil ⟨I1.kIn, run_err Z T hr I1 r1 (.inl ⟨rfl, rfl⟩) fun a d na nd ne => q1 a _ (errAt_new na nd ne).1 (errAt_new na nd ne).2⟩
theorem pe_errKR (Z : Root B newId initId bmB) (T : Err1 X.prog X.K X.mg newId initId bmB C W fI f) (hr : Room (k + 1) X.A) (gC : X.mg x = some (.ref C)) (hg : Gl X x) (he : PE X e te)
    (hdb : (x == ("__debug__" : Str)) = false := by decide) : PE X (.Call (.Name x p) [] [⟨some f, e, kpos⟩] pos) (tErrR C f te) := by
  refine ⟨fun pins s σ H Q I h => ?_⟩
  refine wpAny_Call_Name_kw (ld_glob I hg gC ?_ hdb)
  refine PySem.W.callWith_KW0 (h₀ := X.base) I.ok.mod.kin T.t.kC (by rfl) ?_ (by rfl)
  have hk : PK X [⟨some f, e, kpos⟩] (tCons te tNil) := pk_cons he pk_nil
  refine thn (hk.run pos pins s σ H (fun vs H1 => match vs with | [y] => ∀ a H2, ErrAt H2 a C f y → Same H1 H2 → Q (.ref a) H2 | _ => False) I h) fun us s1 ⟨vs, H1, I1, r1, q1⟩ => ⟨I1.kIn, ?_⟩
  cases r1 with
  | nil => exact q1.elim
  | cons ry rn =>
    cases rn with
    | nil => exact run_err Z T hr I1 ry (.inr ⟨rfl, rfl⟩) fun a d na nd ne => q1 a _ (errAt_new na nd ne).1 (errAt_new na nd ne).2
    | cons r2 rn => exact q1.elim
end
end Fx
set_option Elab.async false
set_option linter.all false
set_option maxRecDepth 100000
set_option maxHeartbeats 4000000
namespace Rl
open PySem PySem.Spec PyProof.Rows L2 Gd
/-! comprehensions whose readings say what each item is -/
section
variable {J : It} {n : Nat} {G : Hp → Prop} {Y : Nat → Hp → V → Hp → Prop}
/-- [e for x in it]: each item y keeps E, which says of the heap without the list that grows -/
theorem lcR (w : Walk J n G Y) {g : TG} {te : TE} {vs : List Nat} {σ : L2.St} {H1 : Hp} {Q : Addr → Hp → Prop} (n1 : n ≤ 1000) (hG : ∀ H, Same H1 H → G H) (E : Nat → V → Hp → Prop) (hE : ∀ i y H H', Same H H' → E i y H → E i y H')
    (turn : ∀ (D : Addr) (acc : List V) (i : Nat) (x : V) (H H' : Hp) (K : V → Hp → Prop), i < n → Same H1 H → H1 D = none → H D = some (.lst acc) → Y i H x H' → (∀ y H4, Same H H4 → E i y (delH H4 D) → K y H4) → g x (wipe σ vs) H' fun σ2 H2 => wipe σ2 vs = wipe σ vs ∧ te σ2 H2 K)
    (done : ∀ (D : Addr) (H' : Hp) (ys : List V), New H1 D (.lst ys) H' → ys.length = n → (∀ i y, ys[i]? = some y → E i y (delH H' D)) → Q D H') :
    ∀ D, H1 D = none → ∃ W : Nat → Nat → Hp → Prop, (∃ m, W 0 m (upd H1 D (.lst []))) ∧ ∀ i m H, W i m H →
      (J.stop i H ∧ Q D H) ∨ (J.go i H ∧ ∃ Nx : Hp → Prop, (∀ H', Nx H' → ∃ m', m' < m ∧ W (i + 1) m' H') ∧ ∀ x H', J.yld i H x H' → g x (wipe σ vs) H' fun σ2 H2 => wipe σ2 vs = wipe σ vs ∧ tYes σ2 H2 fun b H3 =>
        if b = true then te σ2 H3 fun y H4 => ∃ acc, H4 D = some (.lst acc) ∧ acc.length < sizeLine ∧ Nx (upd H4 D (.lst (acc ++ [y]))) else Nx H3) := by
  intro D hD
  refine lc_it w (Qd := fun H => Q D H) (fun i H => Same H1 H ∧ ∃ acc, H D = some (.lst acc) ∧ acc.length = i ∧ ∀ j y, acc[j]? = some y → E j y (delH H D)) ⟨same_new hD, [], upd_same, rfl, fun j y e => by simp at e⟩ (fun i H _ ⟨s, _⟩ => hG H s) ?_ ?_
  · rintro i x H H' hi ⟨s, acc, ha, hl, he⟩ y
    refine turn D acc i x H H' _ hi s hD ha y fun v H4 s4 e4 => ?_
    have hD4 := s4 _ _ ha
    refine ⟨acc, hD4, small1000 (by omega), fun b u e => ?_, acc ++ [v], upd_same, by rw [List.length_append, hl]; rfl, fun j z ej => ?_⟩
    · rw [upd_ne (ne_of_none e hD)]
      exact s4 _ _ (s b u e)
    · have up : ∀ {Ha : Hp}, Same Ha H4 → Same (delH Ha D) (delH (upd H4 D (.lst (acc ++ [v]))) D) := fun {Ha} sa b u e => by
        by_cases q : b = D
        · rw [q, delH_same] at e
          cases e
        · rw [delH_ne q] at e
          rw [delH_ne q, upd_ne q]
          exact sa b u e
      by_cases q : j < acc.length
      · rw [List.getElem?_append_left q] at ej
        exact hE _ _ _ _ (up s4) (he j z ej)
      · rw [List.getElem?_append_right (by omega)] at ej
        have e0 : j - acc.length = 0 := by
          cases r : j - acc.length with
          | zero => rfl
          | succ m =>
            rw [r] at ej
            simp at ej
        rw [e0] at ej
        have ez : v = z := by simpa using ej
        subst ez
        have ej2 : j = i := by omega
        subst ej2
        exact hE _ _ _ _ (up (Same.refl _)) e4
  · rintro H ⟨s, acc, ha, hl, he⟩
    exact done D H acc ⟨hD, ha, s⟩ hl he
end
/-- a list told item by item -/
theorem list_of {n : Nat} {ys : List V} {f : Nat → V} (hl : ys.length = n) (h : ∀ i y, ys[i]? = some y → y = f i) : ys = (List.range n).map f := by
  apply List.ext_getElem
  · rw [hl, List.length_map, List.length_range]
  · intro i h1 h2
    rw [List.getElem_map, List.getElem_range]
    exact h i _ (by simp [h1])
/-! ### types of data -/
def tyN : PyData → String
  | .none => "NoneType"
  | .bool _ => "bool"
  | .int _ => "int"
  | .str _ => "str"
  | .list _ => "list"
  | .tuple _ => "tuple"
  | .dict _ => "dict"
theorem sql_ty {K : PySem.W.Frag} {H : Hp} {a : Addr} {xs : List V} (h : SqL K H a xs) : TyX K H (.ref a) (.type "list") := by
  rcases h with (h | ⟨o, h⟩) | ⟨o, its, n, h, c, _⟩
  · exact .base (.lst h)
  · exact .base (.frz h)
  · exact .kList h c
theorem sqt_ty {K : PySem.W.Frag} {H : Hp} {a : Addr} {xs : List V} (h : SqT K H a xs) : TyX K H (.ref a) (.type "tuple") := by
  rcases h with (h | ⟨o, h⟩) | ⟨o, its, n, h, c, _⟩
  · exact .base (.tup h)
  · exact .fTuple h
  · exact .kTuple h c
theorem rp_ty {K : PySem.W.Frag} {H : Hp} {v : V} {d : PyData} (h : Rp K H v d) : TyX K H v (.type (tyN d)) := by
  rcases h with h | ⟨a, kvs, ds, rfl, ha, _, rfl⟩
  · cases h with
    | non => exact .base .non
    | bl b => exact .base (.bl b)
    | int i => exact .base (.int i)
    | str z => exact .base (.str z)
    | lst h _ => exact sql_ty h
    | tup h _ => exact sqt_ty h
  · exact .base (.dK ha)
/-- isinstance(x, T), T a built-in type, x data -/
def rIsD (K : PySem.W.Frag) (T : String) : List V → Hp → VK → Prop := fun xs H Q => ∃ (v : V) (d : PyData) (b : Bool), xs = [v, .ty T] ∧ Rp K H v d ∧ kitB (tyN d) T = some b ∧ Q (.bl b) H
theorem call_isD {X : Cx} {T : String} : CallR X (.builtin "isinstance") (rIsD X.K T) := by
  intro pins s σ H xs us Q I r h
  obtain ⟨v, d, b, e, hd, hb, q⟩ := h
  exact call_isi pins s σ H xs us Q I r ⟨v, .ty T, .type (tyN d), .type T, b, e, .ty T, rp_ty hd, kit_ty hb, q⟩
theorem kit_int (d : PyData) : kitB (tyN d) "int" = some (match d with | .int _ => true | .bool _ => true | _ => false) := by
  cases d <;> (first | decide +kernel | (simp only [tyN]; decide +kernel))
theorem kit_bool (d : PyData) : kitB (tyN d) "bool" = some (match d with | .bool _ => true | _ => false) := by
  cases d <;> (first | decide +kernel | (simp only [tyN]; decide +kernel))
theorem kit_str (d : PyData) : kitB (tyN d) "str" = some (match d with | .str _ => true | _ => false) := by
  cases d <;> (first | decide +kernel | (simp only [tyN]; decide +kernel))
theorem kit_tuple (d : PyData) : kitB (tyN d) "tuple" = some (match d with | .tuple _ => true | _ => false) := by
  cases d <;> (first | decide +kernel | (simp only [tyN]; decide +kernel))
theorem dp_at {K : PySem.W.Frag} {H : Hp} : ∀ {vs : List V} {ds : List PyData}, DpAll K H vs ds → ∀ {i : Nat} {v : V}, vs[i]? = some v → ∃ d, ds[i]? = some d ∧ Dp K H v d
  | _, _, .nil, i, v, e => by simp at e
  | _, _, .cons a b, 0, v, e => by
    simp at e
    subst e
    exact ⟨_, rfl, a⟩
  | _, _, .cons a b, i + 1, v, e => dp_at b (i := i) (by simpa using e)
theorem dp_len {K : PySem.W.Frag} {H : Hp} : ∀ {vs : List V} {ds : List PyData}, DpAll K H vs ds → vs.length = ds.length
  | _, _, .nil => rfl
  | _, _, .cons a b => by
    rw [List.length_cons, List.length_cons, dp_len b]
theorem dp_of {K : PySem.W.Frag} {H : Hp} : ∀ {vs : List V} {ds : List PyData}, vs.length = ds.length → (∀ (i : Nat) (v : V), vs[i]? = some v → ∃ d, ds[i]? = some d ∧ Dp K H v d) → DpAll K H vs ds
  | [], [], _, _ => .nil
  | [], _ :: _, h, _ => by simp at h
  | _ :: _, [], h, _ => by simp at h
  | v :: vs, d :: ds, h, e => by
    obtain ⟨d', e1, e2⟩ := e 0 v rfl
    have e3 : d = d' := by simpa using e1
    subst e3
    exact .cons e2 (dp_of (by simpa using h) fun i v q => e (i + 1) v (by simpa using q))
end Rl
set_option Elab.async false
set_option linter.all false
set_option maxRecDepth 100000
set_option maxHeartbeats 8000000
namespace Vd
open PySem PySem.Spec PyProof.Rows L2 Gd Rl LamX
/-! nested values: as data; a dict within them tells nothing of what it holds -/
mutual
inductive Vp (K : PySem.W.Frag) (H : Hp) : V → PyData → Prop where
  | non : Vp K H .non .none
  | bl (b : Bool) : Vp K H (.bl b) (.bool b)
  | int (i : Int) : Vp K H (.int i) (.int i)
  | str (z : Str) : Vp K H (.str z) (.str z)
  | lst {a : Addr} {xs : List V} {ds : List PyData} (h : SqL K H a xs) (hs : VpAll K H xs ds) : Vp K H (.ref a) (.list ds)
  | tup {a : Addr} {xs : List V} {ds : List PyData} (h : SqT K H a xs) (hs : VpAll K H xs ds) : Vp K H (.ref a) (.tuple ds)
  | dct {a : Addr} {kvs : List (Key × V)} (h : H a = some (.dK kvs)) : Vp K H (.ref a) (.dict [])
inductive VpAll (K : PySem.W.Frag) (H : Hp) : List V → List PyData → Prop where
  | nil : VpAll K H [] []
  | cons {v : V} {d : PyData} {vs : List V} {ds : List PyData} (h : Vp K H v d) (hs : VpAll K H vs ds) : VpAll K H (v :: vs) (d :: ds)
end
theorem sl_ext {K : PySem.W.Frag} {H H' : Hp} {a : Addr} {xs : List V} (e : ExtN H H') (h : SqL K H a xs) : SqL K H' a xs := by
  rcases h with (h | ⟨o, h⟩) | h
  · exact .inl (.inl (e _ _ h fun _ z => nomatch z))
  · exact .inl (.inr ⟨o, e _ _ h fun _ z => nomatch z⟩)
  · exact .inr h
theorem st_ext {K : PySem.W.Frag} {H H' : Hp} {a : Addr} {xs : List V} (e : ExtN H H') (h : SqT K H a xs) : SqT K H' a xs := by
  rcases h with (h | ⟨o, h⟩) | h
  · exact .inl (.inl (e _ _ h fun _ z => nomatch z))
  · exact .inl (.inr ⟨o, e _ _ h fun _ z => nomatch z⟩)
  · exact .inr h
mutual
theorem vp_ext {K : PySem.W.Frag} {H H' : Hp} (e : ExtN H H') : ∀ (d : PyData) {v : V}, Vp K H v d → Vp K H' v d
  | .none, _, h => by cases h; exact .non
  | .bool b, _, h => by cases h; exact .bl b
  | .int i, _, h => by cases h; exact .int i
  | .str z, _, h => by cases h; exact .str z
  | .list ds, _, h => by
    cases h with
    | lst hs ha => exact .lst (sl_ext e hs) (vp_extAll e ds ha)
  | .tuple ds, _, h => by
    cases h with
    | tup hs ha => exact .tup (st_ext e hs) (vp_extAll e ds ha)
  | .dict _, _, h => by
    cases h with
    | dct h => exact .dct (e _ _ h fun _ z => nomatch z)
theorem vp_extAll {K : PySem.W.Frag} {H H' : Hp} (e : ExtN H H') : ∀ (ds : List PyData) {vs : List V}, VpAll K H vs ds → VpAll K H' vs ds
  | [], _, h => by cases h; exact .nil
  | d :: ds, _, h => by
    cases h with
    | cons h1 h2 => exact .cons (vp_ext e d h1) (vp_extAll e ds h2)
end
theorem ext_same {H H' : Hp} (s : Same H H') : ExtN H H' := fun b o e _ => s b o e
theorem vp_same {K : PySem.W.Frag} {H H' : Hp} (s : Same H H') {d : PyData} {v : V} (h : Vp K H v d) : Vp K H' v d := vp_ext (ext_same s) d h
theorem vp_sameAll {K : PySem.W.Frag} {H H' : Hp} (s : Same H H') {ds : List PyData} {vs : List V} (h : VpAll K H vs ds) : VpAll K H' vs ds := vp_extAll (ext_same s) ds h
mutual
theorem vp_dp {K : PySem.W.Frag} {H : Hp} : ∀ (d : PyData) {v : V}, Dp K H v d → Vp K H v d
  | .none, _, h => by cases h; exact .non
  | .bool b, _, h => by cases h; exact .bl b
  | .int i, _, h => by cases h; exact .int i
  | .str z, _, h => by cases h; exact .str z
  | .list ds, _, h => by
    cases h with
    | lst hs ha => exact .lst hs (vp_dpAll ds ha)
  | .tuple ds, _, h => by
    cases h with
    | tup hs ha => exact .tup hs (vp_dpAll ds ha)
  | .dict _, _, h => by cases h
theorem vp_dpAll {K : PySem.W.Frag} {H : Hp} : ∀ (ds : List PyData) {vs : List V}, DpAll K H vs ds → VpAll K H vs ds
  | [], _, h => by cases h; exact .nil
  | d :: ds, _, h => by
    cases h with
    | cons h1 h2 => exact .cons (vp_dp d h1) (vp_dpAll ds h2)
end
/-- the same, no dict told -/
def noD : PyData → PyData
  | .dict _ => .dict []
  | d => d
theorem vp_rp {K : PySem.W.Frag} {H : Hp} {v : V} {d : PyData} (h : Rp K H v d) : Vp K H v (noD d) := by
  rcases h with h | ⟨a, kvs, ds, rfl, h1, _, rfl⟩
  · have h2 := vp_dp d h
    cases d <;> first | exact h2 | cases h
  · exact .dct h1
theorem vp_ty {K : PySem.W.Frag} {H : Hp} {v : V} {d : PyData} (h : Vp K H v d) : TyX K H v (.type (tyN d)) := by
  cases h with
  | non => exact .base .non
  | bl b => exact .base (.bl b)
  | int i => exact .base (.int i)
  | str z => exact .base (.str z)
  | lst h _ => exact sql_ty h
  | tup h _ => exact sqt_ty h
  | dct h => exact .base (.dK h)
theorem vp_len {K : PySem.W.Frag} {H : Hp} : ∀ {vs : List V} {ds : List PyData}, VpAll K H vs ds → vs.length = ds.length
  | _, _, .nil => rfl
  | _, _, .cons a b => by
    rw [List.length_cons, List.length_cons, vp_len b]
theorem vp_at {K : PySem.W.Frag} {H : Hp} : ∀ {vs : List V} {ds : List PyData}, VpAll K H vs ds → ∀ {i : Nat} {v : V}, vs[i]? = some v → ∃ d, ds[i]? = some d ∧ Vp K H v d
  | _, _, .nil, i, v, e => by simp at e
  | _, _, .cons a b, 0, v, e => by
    simp at e
    subst e
    exact ⟨_, rfl, a⟩
  | _, _, .cons a b, i + 1, v, e => vp_at b (i := i) (by simpa using e)
theorem vp_take {K : PySem.W.Frag} {H : Hp} : ∀ (i : Nat) {vs : List V} {ds : List PyData}, VpAll K H vs ds → VpAll K H (vs.take i) (ds.take i)
  | 0, _, _, _ => .nil
  | i + 1, _, _, .nil => .nil
  | i + 1, _, _, .cons a b => .cons a (vp_take i b)
theorem vp_drop {K : PySem.W.Frag} {H : Hp} : ∀ (i : Nat) {vs : List V} {ds : List PyData}, VpAll K H vs ds → VpAll K H (vs.drop i) (ds.drop i)
  | 0, _, _, h => h
  | i + 1, _, _, .nil => .nil
  | i + 1, _, _, .cons a b => vp_drop i b
theorem vp_app {K : PySem.W.Frag} {H : Hp} : ∀ {xs ys : List V} {ds es : List PyData}, VpAll K H xs ds → VpAll K H ys es → VpAll K H (xs ++ ys) (ds ++ es)
  | _, _, _, _, .nil, q => q
  | _, _, _, _, .cons a b, q => .cons a (vp_app b q)
theorem vp_rev {K : PySem.W.Frag} {H : Hp} : ∀ {xs : List V} {ds : List PyData}, VpAll K H xs ds → VpAll K H xs.reverse ds.reverse
  | _, _, .nil => .nil
  | _, _, .cons a b => by
    rw [List.reverse_cons, List.reverse_cons]
    exact vp_app (vp_rev b) (.cons a .nil)
theorem vp_tup {K : PySem.W.Frag} {H : Hp} {v : V} {ds : List PyData} (h : Vp K H v (.tuple ds)) : ∃ a xs, v = .ref a ∧ SqT K H a xs ∧ VpAll K H xs ds := by
  cases h with
  | tup h hs => exact ⟨_, _, rfl, h, hs⟩
/-- isinstance(x, T), T a built-in type, x a nested value -/
def rIsV (K : PySem.W.Frag) (T : String) : List V → Hp → VK → Prop := fun xs H Q => ∃ (v : V) (d : PyData) (b : Bool), xs = [v, .ty T] ∧ Vp K H v d ∧ kitB (tyN d) T = some b ∧ Q (.bl b) H
theorem call_isV {X : Cx} {T : String} : CallR X (.builtin "isinstance") (rIsV X.K T) := by
  intro pins s σ H xs us Q I r h
  obtain ⟨v, d, b, e, hd, hb, q⟩ := h
  exact call_isi pins s σ H xs us Q I r ⟨v, .ty T, .type (tyN d), .type T, b, e, .ty T, vp_ty hd, kit_ty hb, q⟩
/-! ### how deep and how wide -/
def Fit (m : Nat) : Nat → PyData → Prop
  | 0, _ => False
  | n + 1, .tuple ds => ds.length ≤ m ∧ ∀ d ∈ ds, Fit m n d
  | n + 1, .list ds => ds.length ≤ m ∧ ∀ d ∈ ds, Fit m n d
  | _ + 1, _ => True
theorem Fit.mono {m m' : Nat} (hm : m ≤ m') : ∀ {n n' : Nat} {d : PyData}, n ≤ n' → Fit m n d → Fit m' n' d
  | 0, _, _, _, h => h.elim
  | n + 1, 0, _, hn, _ => absurd hn (by omega)
  | n + 1, n' + 1, .tuple ds, hn, h => ⟨Nat.le_trans h.1 hm, fun d hd => Fit.mono hm (Nat.le_of_succ_le_succ hn) (h.2 d hd)⟩
  | n + 1, n' + 1, .list ds, hn, h => ⟨Nat.le_trans h.1 hm, fun d hd => Fit.mono hm (Nat.le_of_succ_le_succ hn) (h.2 d hd)⟩
  | n + 1, n' + 1, .none, _, _ => trivial
  | n + 1, n' + 1, .bool _, _, _ => trivial
  | n + 1, n' + 1, .int _, _, _ => trivial
  | n + 1, n' + 1, .str _, _, _ => trivial
  | n + 1, n' + 1, .dict _, _, _ => trivial
/-! ### parts of a tuple -/
theorem cut_drop {xs : List V} {i : Nat} (h : i ≤ xs.length) : cutV xs (some (i : Int)) none = xs.drop i := by
  unfold cutV
  rw [HT.sIx_none, HT.sIx_nat, Nat.min_eq_left h]
  exact List.take_of_length_le (by rw [List.length_drop]; exact Nat.le_refl _)
theorem cut_mid {xs : List V} {i j : Nat} (h : j ≤ xs.length) (hi : i ≤ j) : cutV xs (some (i : Int)) (some (j : Int)) = (xs.drop i).take (j - i) := by
  unfold cutV
  rw [HT.sIx_nat, HT.sIx_nat, Nat.min_eq_left h, Nat.min_eq_left (Nat.le_trans hi h)]
theorem catA_vp {K : PySem.W.Frag} {H : Hp} {x y : V} {ds es : List PyData} {Q : VK} (hx : Vp K H x (.tuple ds)) (hy : Vp K H y (.tuple es)) (hl : ds.length + es.length ≤ 1000) (h : ∀ r H', Same H H' → ∀ xs ys, VpAll K H xs ds → VpAll K H ys es → (∃ a, r = .ref a ∧ SqT K H' a (xs ++ ys)) → Q r H') : rCatA K x y H Q := by
  obtain ⟨a, xs, rfl, ha, hxs⟩ := vp_tup hx
  obtain ⟨b, ys, rfl, hb, hys⟩ := vp_tup hy
  have l1 := vp_len hxs
  have l2 := vp_len hys
  refine ⟨a, b, xs, ys, rfl, rfl, ha, hb, sz1000 (by omega), fun e0 => ?_, fun n0 e0 => ?_, fun n0 n1 p np => ?_⟩
  · subst e0
    exact h _ H (Same.refl _) [] ys hxs hys ⟨b, rfl, hb⟩
  · subst e0
    exact h _ H (Same.refl _) xs [] hxs hys ⟨a, rfl, by rw [List.append_nil]; exact ha⟩
  · have s := same_new (o := .tup (xs ++ ys)) np
    exact h _ _ s xs ys hxs hys ⟨p, rfl, SqT.of upd_same⟩
end Vd
namespace L2
open PySem PySem.Spec PyProof.Rows
/-! a tuple beside the empty tuple -/
def rNeT (K : PySem.W.Frag) : R2 := fun x y H Q => ∃ a b xs, x = .ref a ∧ y = .ref b ∧ SqT K H a xs ∧ SqT K H b [] ∧ Q (.bl (!xs.isEmpty)) H
def rEqT (K : PySem.W.Frag) : R2 := fun x y H Q => ∃ a b xs, x = .ref a ∧ y = .ref b ∧ SqT K H a xs ∧ SqT K H b [] ∧ Q (.bl xs.isEmpty) H
section
variable {X : Cx}
theorem op_neT (hu : X.A.units + 64 < cLine) : OpR X (compareOp .NotEq) (rNeT X.K) := by
  intro pins s σ H x y v u Q I rx ry h
  obtain ⟨a, b, xs, rfl, rfl, ha, hb, q⟩ := h
  cases rx
  cases ry
  obtain ⟨ia, ra, ⟨oa, ha1, ha2, na, ha3⟩, _⟩ := I.tuple ha
  obtain ⟨ib, rb, ⟨ob, hb1, hb2, nb, hb3⟩, _⟩ := I.tuple hb
  cases rb
  have h2 := SeqAt.RcNeAt.tuples (A := X.A) (s := s) (e := fun _ => true) ⟨oa, ha1, ha2, na, ha3⟩ ⟨ob, hb1, hb2, nb, hb3⟩ (by omega) fun j h1 h2 => by simp at h2
  refine EqBoolInt.of_rcne h2 ?_
  refine ⟨.bl (!xs.isEmpty), H, I, ?_, q⟩
  cases ra with
  | nil => rfl
  | cons r1 r2 => rfl
theorem op_eqT (hu : X.A.units + 64 < cLine) : OpR X (compareOp .Eq) (rEqT X.K) := by
  intro pins s σ H x y v u Q I rx ry h
  obtain ⟨a, b, xs, rfl, rfl, ha, hb, q⟩ := h
  cases rx
  cases ry
  obtain ⟨ia, ra, ⟨oa, ha1, ha2, na, ha3⟩, _⟩ := I.tuple ha
  obtain ⟨ib, rb, ⟨ob, hb1, hb2, nb, hb3⟩, _⟩ := I.tuple hb
  cases rb
  have h2 := SeqAt.RcAt.tuples (A := X.A) (s := s) (e := fun _ => true) ⟨oa, ha1, ha2, na, ha3⟩ ⟨ob, hb1, hb2, nb, hb3⟩ (by omega) fun j h1 h2 => by simp at h2
  refine EqBoolInt.of_rc h2 ?_
  refine ⟨.bl xs.isEmpty, H, I, ?_, q⟩
  cases ra with
  | nil => rfl
  | cons r1 r2 => rfl
end
end L2
set_option Elab.async false
set_option linter.all false
set_option maxRecDepth 100000
set_option maxHeartbeats 8000000
namespace Te
open PySem PySem.Spec PyProof.Rows L2 Gd Rl
/-! enumerate over what begins as told, here a tuple -/
abbrev ecell (h : Heap) : Obj := ⟨.type "enumerate", none, .fields #[.none, .bool false, .ref h.objs.size, rawInt 0, .none, .none], #[]⟩
theorem enum_new1 {v : Value} {o : Obj} {S : Heap → Prop} (B : Begins v o S) :
    Meets (Builtin.«enumerate.__new__» ⟨[.type "enumerate", v], []⟩) (fun _ R s => S s.heap ∧ R (.ok (.ret (.ref (s.heap.push o).objs.size))) { s with heap := (s.heap.push o).push (ecell s.heap) }) :=
  .of_wp fun prog w A R s h => by
    obtain ⟨hp, g, d, tk, os⟩ := s
    obtain ⟨hS, h⟩ := h
    have sub1 := sub_enumerate
    have it1 : ∀ {A1 : Around} {E1 Q1 : Value → Shared → Prop}, Q1 (.ref hp.objs.size) ⟨hp.push o, g, d, tk, os⟩ → wpAny (model prog w) A1 (pyIter v) Q1 E1 ⟨hp, g, d, tk, os⟩ := fun q => B.iter prog w _ _ ⟨hp, g, d, tk, os⟩ _ hS q
    wp_walk using it1
    refine wpAny_stack_any fun st => wpAny_pure ?_
    split
    · rename_i c _ _ _ _ _
      cases (c == Value.type "enumerate") <;> (wp_walk using it1; exact ⟨_, rfl, h⟩)
    · wp_walk using it1
      exact ⟨_, rfl, h⟩
theorem enum_call1 {prog : Program} {w : World} {A : Around} {E : Value → Shared → Prop} {s : Shared} {v : Value} {o : Obj} {S : Heap → Prop} {Q : Value → Shared → Prop} (B : Begins v o S) (hS : S s.heap)
    (h : ∀ h', IsEnum h' (s.heap.objs.size + 1) s.heap.objs.size 0 .none → h'.get? s.heap.objs.size = some o → (∀ b ob, s.heap.get? b = some ob → h'.get? b = some ob) → Q (.ref (s.heap.objs.size + 1)) { s with heap := h' }) :
    wpAny (model prog w) A (call (.type "enumerate") [v]) Q E s := by
  refine callType_new F.called_enumerate (by decide) (F.typeCall_enumerate_1 _) (F.newCall_enumerate_1 _) (fun obj => F.args_object_init_2 obj _) F.entry_enumerate_new (enum_new1 B) ⟨hS, ?_⟩
  have z1 : (s.heap.push o).objs.size = s.heap.objs.size + 1 := Heap.size_push ..
  show _ ∧ _
  rw [z1]
  have he : IsEnum ((s.heap.push o).push (ecell s.heap)) (s.heap.objs.size + 1) s.heap.objs.size 0 .none := by
    have q := Heap.get?_push_size (s.heap.push o) (o := ecell s.heap) rfl
    rw [z1] at q
    exact q
  exact ⟨⟨_, he, rfl⟩, h _ he (Heap.get?_push_of_some _ (Heap.get?_push_size _ B.free)) fun b ob x => Heap.get?_push_of_some _ (Heap.get?_push_of_some _ x)⟩
/-- the tuple at a as it stands, each item in a new pair behind its index -/
def Iet (K : PySem.W.Frag) (a : Addr) : It :=
  ⟨fun i H => ∃ (xs : List V) (x : V), SqT K H a xs ∧ xs[i]? = some x, fun i H v H' => ∃ T x, v = .ref T ∧ H T = none ∧ H' = upd H T (.tup [.int (i : Nat), x]) ∧ ∀ xs, SqT K H a xs → xs[i]? = some x, fun i H => ∃ xs : List V, SqT K H a xs ∧ xs.length ≤ i⟩
abbrev StE (a e it : Addr) (i : Nat) (h : Heap) : Prop := (∃ old, IsEnum h e it ((i : Nat) : Int) old) ∧ h.IsTupleIter it a i ∧ (e ≠ it ∧ a ≠ it ∧ e ≠ a)
theorem two {b e it : Addr} (h : b ∈ [e, it]) : b = e ∨ b = it := by simpa using h
theorem turn_enumT {P : Program} {w : World} {K : PySem.W.Frag} {elts : List Expr} {kk : Nat} {tpos : Pos} (a e it : Addr) : Turn P w K (.Tuple elts kk tpos) (Iet K a) [e, it] e (StE a e it) where
  mem := by simp
  obj := fun i h st b hb => by
    obtain ⟨⟨old, he⟩, ⟨o, ho, hc, hd⟩, _⟩ := st
    rcases two hb with rfl | rfl
    · exact ⟨_, he, fun v q => nomatch q⟩
    · exact ⟨o, ho, fun v q => by rw [hd] at q; cases q⟩
  keep := fun i h h' st k => let ⟨⟨old, he⟩, hi, hne⟩ := st; ⟨⟨old, k e (by simp) _ he⟩, hi.at fun o q => k it (by simp) o q, hne⟩
  item := by
    intro X hP hw hK hc i pins s σ H E I hf st hg
    subst hP hw hK
    obtain ⟨⟨old, he⟩, hit, n1, n2, n3⟩ := st
    obtain ⟨xs, x, hq, hx⟩ := hg
    obtain ⟨its, rv, p, hz⟩ := I.tuple hq
    obtain ⟨u, hu, ru⟩ := rv.get hx
    have hel : e < s.heap.objs.size := Heap.lt_size he
    have hil : it < s.heap.objs.size := by
      obtain ⟨_, q, _⟩ := hit
      exact Heap.lt_size q
    have D := Draws.tuple (prog := X.prog) (w := X.w) (A := X.A.in1) (I.ok.hd hc) it a n2 its.toArray
    have hlt : i < its.toArray.size := by
      have := (List.getElem?_eq_some_iff.mp hu).1
      simpa using this
    refine wpAny_pyNext_enum_itemD D he ⟨hit, p⟩ hlt n1 (fun hm => ?_) fun y h' tk hy ho hst' hT hsz hk => ?_
    · rcases (by simpa using hm : e = it ∨ e = a) with q | q
      · exact n1 q
      · exact n3 q
    · have ey : y = u := by
        have h1 : its[i]? = some y := by simpa using hy
        rw [hu] at h1
        exact (Option.some.inj h1).symm
      subst ey
      refine ⟨_, rfl, wpAny_letOwnedTupleGo_enum (s := { s with heap := h', toks := tk + 1 }) ho fun h'' he' sb => ?_⟩
      have hT2 : h''.get? s.heap.objs.size = some { cls := .type "tuple", data := .seq #[.int i tk, y] } := (sb.2 _ (Nat.ne_of_gt hel)).trans hT
      have new : ObjOk X.prog X.w (upd H s.heap.objs.size (.tup [.int (i : Nat), x])) h'' s.heap.objs.size (.tup [.int (i : Nat), x]) :=
        ⟨by show 2 ≤ sizeLine; decide, [.int i tk, y], .cons ⟨_, rfl⟩ (.cons ru .nil), ⟨_, hT2, rfl, _, rfl⟩⟩
      have I1 : Inv X pins σ (upd H s.heap.objs.size (.tup [.int (i : Nat), x])) { s with heap := h'', toks := tk + 1 } :=
        I.turnedNew (ch := [e, it]) (fun b ob hb q => (sb.2 b (fun z => hb (by simp [z]))).trans (hk b ob (fun z => hb (by simp [z])) (fun z => hb (by simp [z])) q)) hf (Nat.le_refl _) new
      refine ⟨.ref s.heap.objs.size, _, I1, rfl, ⟨_, x, rfl, I.hok.fresh (Nat.le_refl _), rfl, fun ys hys => by rw [I.tuple_inj hys hq]; exact hx⟩, ⟨⟨y, ?_⟩, hst'.1.at fun o q => (sb.2 it (Ne.symm n1)).trans q, n1, n2, n3⟩, fun b hb => ?_⟩
      · rw [show ((i + 1 : Nat) : Int) = (i : Int) + 1 by omega]
        exact he'
      · have hb' : b < s.heap.objs.size := by
          rcases two hb with rfl | rfl
          · exact hel
          · exact hil
        rw [upd_ne (Nat.ne_of_lt hb')]
        exact (hf b hb).1
  done := by
    intro X hP hw hK hc i pins s σ H E I hf st hg
    subst hP hw hK
    obtain ⟨⟨old, he⟩, hit, n1, n2, n3⟩ := st
    obtain ⟨xs, hq, hx⟩ := hg
    obtain ⟨its, rv, p, hz⟩ := I.tuple hq
    obtain ⟨f0, f1, f2, f3, f4, f5⟩ := hf it (by simp)
    have hl := rv.length
    have hnone : its.toArray[i]? = none := by
      simp
      omega
    have D : Draws X.prog X.w X.A.in1 it [it, a] i (fun _ _ => False) (fun j h => j = i ∧ h.IsTupleIter it a i ∧ h.IsTuple a its.toArray) :=
      { live := fun j h ⟨_, q, _⟩ => let ⟨o, ho, _⟩ := q; ⟨o, ho⟩
        frame := fun j h h' ⟨e1, q1, q2⟩ k => ⟨e1, q1.at fun o e => k it (by simp) o e, q2.at fun o e => k a (by simp) o e⟩
        item := fun j s Q E hj ⟨e1, _⟩ _ => absurd e1 (Nat.ne_of_lt hj)
        done := fun s Q E ⟨_, q1, q2⟩ hE => wpAny_nextOf_tuple_end (I.ok.hd hc) q1 q2 hnone hE }
    exact wpAny_pyNext_enum_endD D he ⟨rfl, hit, p⟩ fun h' eb => ⟨rfl, I.turned (t' := s.toks) (fun b o hb q => eb b o hb q) f0 f1 f3 f4 f5⟩
  self := fun A i s Q E st h => let ⟨⟨_, he⟩, _⟩ := st; wpAny_pyIter_enum he h
def iEnumT (K : PySem.W.Frag) (ta : TA) : TI := fun σ H R => ta σ H fun vs H1 => ∃ a xs, vs = [.ref a] ∧ SqT K H1 a xs ∧ R (Iet K a) H1
theorem pi_enumT {X : Cx} {e : Expr} {ta : TA} {p pos tpos : Pos} {elts : List Expr} {kk : Nat} (hg : Gl X "enumerate") (hm : X.mg "enumerate" = none) (ha : PA X [e] ta) (hs : starEach [e] X.env = [(false, eval e X.env)] := by rfl) :
    PI X (.Tuple elts kk tpos) (.Call (.Name "enumerate" p) [e] [] pos) (iEnumT X.K ta) := by
  refine ⟨fun pins s σ H R I h => ?_⟩
  refine Call_ (ld_blt I hg hm boot_enumerate (PyProof.Rows.callWith_type1 (thn (ha.run pos pins s σ H _ I h) fun us s1 ⟨vs, H1, I1, r1, q1⟩ => ?_) hs rfl))
  obtain ⟨a, xs, ex, hq, q⟩ := q1
  subst ex
  cases r1 with
  | cons r rr =>
    cases rr
    cases r
    obtain ⟨its, rv, p', hz⟩ := I1.tuple hq
    have pt : s1.heap.IsTuple a its.toArray := p'
    have hal : a < s1.heap.objs.size := by
      obtain ⟨_, q, _⟩ := pt
      exact Heap.lt_size q
    refine enum_call1 (begins_tuple a its.toArray) pt fun h' he hit hk => wpAny_pyIter_enum he ?_
    have I2 : Inv X pins σ H1 { s1 with heap := h' } := I1.kept (t' := s1.toks) hk
    refine ⟨s1.heap.objs.size + 1, [s1.heap.objs.size + 1, s1.heap.objs.size], _, _, H1, rfl, I2, turn_enumT a (s1.heap.objs.size + 1) s1.heap.objs.size, ⟨⟨.none, he⟩, ⟨_, hit, rfl, rfl⟩, Nat.succ_ne_self _, Nat.ne_of_lt hal, Nat.ne_of_gt (Nat.lt_succ_of_lt hal)⟩, fun b hb => ?_, q⟩
    have hle : s1.heap.objs.size ≤ b := by
      rcases two hb with rfl | rfl
      · exact Nat.le_add_right _ _
      · exact Nat.le_refl _
    exact I1.fpOk hle (I1.hok.fresh hle)
theorem walk_enumT {K : PySem.W.Frag} {a : Addr} {xs : List V} : Walk (Iet K a) xs.length (fun H => SqT K H a xs) (YPair (fun i => some (.int (i : Nat))) (fun i => xs[i]?)) :=
  ⟨fun i _ hi q => ⟨xs, xs[i], q, by simp [hi]⟩, fun _ q => ⟨xs, q, Nat.le_refl _⟩, fun i H v H' _ q y => let ⟨T, x, h1, h2, h3, h4⟩ := y; ⟨T, .int (i : Nat), x, h1, h2, h3, rfl, h4 xs q⟩⟩
end Te
set_option Elab.async false
set_option linter.all false
set_option maxRecDepth 100000
set_option maxHeartbeats 8000000
namespace Hy
open PySem PySem.Spec PyProof.Rows L2 L2H Gd Rl Fx
/-! own errors over an own base, raised; the caught one asked; defs called where one is handled -/
section
variable {X : Cx} {pins : List (Addr × Obj)} {σ : L2.St} {H : Hp} {s : Shared} {B newId initId : String} {bmB : List Value} {C W fI : Addr} {f : Str} {k : Nat}
/-- an error is made: what stands then -/
theorem made_raw (Z : Root B newId initId bmB) (T : Err1 X.prog X.K X.mg newId initId bmB C W fI f) (hr : Room (k + 1) X.A) (I : Inv X pins σ H s) {y : V} {u : Value} (ry : RelV y u) {P : Value → Shared → Prop}
    (h : ∀ (h' : Heap) (tk' : Nat) (a d t1 : Addr) (mA : Str → Option Value), (∀ b o, s.heap.get? b = some o → h'.get? b = some o) → s.heap.objs.size ≤ a → s.heap.objs.size ≤ d → d ≠ a → h'.get? a = some (excD C t1 (some d)) → h'.Ns1 d mA →
      (∀ g, RelO (([(f, y)] : List (Str × V)).lookup g) (mA g)) → P (.ref a) { s with heap := h', toks := tk' }) :
    wpAny (model X.prog X.w) X.A (call (.ref C) [u] []) P X.xe s := by
  obtain ⟨nm, q, N, bs, sn, sub, ab, col, dd, k0, k1, k2, k3, k5, hC⟩ := T.t.cls
  obtain ⟨hp, g, dr, tk, os⟩ := s
  have kk : ∀ b o, hp.get? b = some o → ((hp.push (PySem.W.kdv_tup [u])).push (PySem.HandSPX.excO C hp.objs.size)).get? b = some o := fun b o e => Heap.get?_push_of_some _ (Heap.get?_push_of_some _ e)
  have hget : ((hp.push (PySem.W.kdv_tup [u])).push (PySem.HandSPX.excO C hp.objs.size)).get? (hp.objs.size + 1) = some (PySem.HandSPX.excO C hp.objs.size) := by heap_get
  have hz : [u].length ≤ sizeLine := by
    rw [sizeLine_eq]
    show 1 ≤ 16777216
    decide
  have nb : X.base.get? (hp.objs.size + 1) = none := by
    cases e : X.base.get? (hp.objs.size + 1) with
    | none => rfl
    | some o =>
      have z : hp.get? (hp.objs.size + 1) = some o := I.bk _ _ e
      exact absurd (Nat.lt_of_succ_lt (Heap.lt_size z)) (Nat.lt_irrefl _)
  refine wpAny_call (kw_call Z.fb (hT_of Z W) (I.kIn _ _ hC) (PySem.W.looks_findIn I.kIn T.t.iC) (fun self => PySem.W.bind_fn I.kIn self T.t.tI) hz ?_)
  refine init1 (s := ⟨(hp.push (PySem.W.kdv_tup [u])).push (PySem.HandSPX.excO C hp.objs.size), g, dr, tk, os⟩) Z T.t I.ok.mod (fun b o e => kk b o (I.bk b o e)) T.ff T.no T.n (.inl rfl) hget nb ?_ fun h' tk' dx t1 k1 e1 dn dne hn => ?_
  · rw [make_depth]
    have := hr.dp
    omega
  · have old : ∀ b o, hp.get? b = some o → h'.get? b = some o := fun b o e => k1 b o (Nat.ne_of_lt (Nat.lt_succ_of_lt (Heap.lt_size e))) (kk b o e)
    have sz : hp.objs.size ≤ dx := by
      have z : ((hp.push (PySem.W.kdv_tup [u])).push (PySem.HandSPX.excO C hp.objs.size)).objs.size ≤ dx := dn
      rw [Heap.size_push, Heap.size_push] at z
      omega
    exact ⟨rfl, h _ _ _ _ _ _ old (Nat.le_succ _) sz dne e1 hn (relO_put (fs := []) (mA := fun _ => none) ry fun g => True.intro)⟩
/-- such an error as one that is raised: it is let go, its dict stands -/
theorem made_mk (I : Inv X pins σ H s) (rz : Raises X (.ref C)) {h' : Heap} {tk' : Nat} {a d t1 : Addr} {mA : Str → Option Value} {fs : List (Str × V)} {Q : XK} (old : ∀ b o, s.heap.get? b = some o → h'.get? b = some o) (sa : s.heap.objs.size ≤ a) (sd : s.heap.objs.size ≤ d) (ne : d ≠ a)
    (ea : h'.get? a = some (excD C t1 (some d))) (hn : h'.Ns1 d mA) (rel : ∀ g, RelO (fs.lookup g) (mA g)) (q : ∀ d, H d = none → Q (.ref C) (some d) (upd H d (.xd fs))) : MkP X pins σ Q (.ref a) { s with heap := h', toks := tk' } := by
  obtain ⟨G, g1, g2⟩ := restrict h' fun b => decide (b ≠ a)
  have gk : ∀ b, b ≠ a → G.get? b = h'.get? b := fun b hb => g1 b (decide_eq_true hb)
  have ge : G.get? a = none := g2 a (by simp)
  have na : H a = none := I.hok.fresh sa
  have nd : H d = none := I.hok.fresh sd
  have kG : ∀ b o, G.get? b = some o → h'.get? b = some o := fun b o e => by
    rcases Classical.em (b = a) with z | z
    · rw [z, ge] at e
      cases e
    · exact (gk b z).symm.trans e
  have oG : ∀ b o, s.heap.get? b = some o → G.get? b = some o := fun b o e => (gk b (Nat.ne_of_lt (Nat.lt_of_lt_of_le (Heap.lt_size e) sa))).trans (old b o e)
  have J : Inv X pins σ (upd H d (.xd fs)) { s with heap := G, toks := tk' } := by
    refine I.laid (t' := tk') (a := d) (o := .xd fs) (h' := G) oG sd ?_
    obtain ⟨o, es, ep, e1, e2⟩ := hn
    exact ⟨mA, ⟨o, es, ep, (gk d ne).trans e1, e2⟩, rel⟩
  exact ⟨a, _, _, { s with heap := G, toks := tk' }, _, .ref C, some d, rfl, J, kG, ge, ea, ⟨rfl, rfl⟩, rfl, rfl, by rw [upd_ne (Ne.symm ne)]; exact na, rfl, I.bare, rz, q d nd⟩
theorem pmk_err {x : Str} {e : Expr} {te : TE} {p pos : Pos} (Z : Root B newId initId bmB) (T : Err1 X.prog X.K X.mg newId initId bmB C W fI f) (rz : Raises X (.ref C)) (hr : Room (k + 1) X.A) (gC : X.mg x = some (.ref C)) (hg : Gl X x) (he : PE X e te)
    (hs : starEach [e] X.env = (false, eval e X.env) :: starEach [] X.env := by rfl) (hdb : (x == ("__debug__" : Str)) = false := by decide) :
    PMk X (.Call (.Name x p) [e] [] pos) (fun σ H Q => te σ H fun y H1 => ∀ d, H1 d = none → Q (.ref C) (some d) (upd H1 d (.xd [(f, y)]))) := by
  intro pins s σ H Q I h
  refine wpAny_Call_Name_kw (ld_glob I hg gC ?_ hdb)
  refine PySem.W.callWith_K (h₀ := X.base) I.ok.mod.kin T.t.kC ?_ hs (by rfl)
  rw [hs]
  refine Calls.spliced_cons (thn (he.run pins s σ H _ I h) fun u s1 ⟨y, H1, I1, r1, q1⟩ => ?_)
  refine Calls.spliced_nil ⟨I1.kIn, ?_⟩
  exact made_raw Z T hr I1 r1 fun h' tk' a d t1 mA old sa sd ne ea hn rel => made_mk I1 rz old sa sd ne ea hn rel q1
end
/-! ### the caught error is asked -/
section
variable {X : Cx} {pins : List (Addr × Obj)} {σ : L2.St} {H : Hp} {s : Shared} {a C dd : Addr} {oe : Obj}
theorem inst_pin {fs : List (Str × V)} (I : Inv X pins σ H s) (hp : (a, oe) ∈ X.pn) (hz : Zc (.ref C) (some dd) oe) (hf : ∃ vs, oe.data = .fields vs) (ed : H dd = some (.xd fs)) :
    ∃ (od : Obj) (mA : Str → Option Value), PySem.W.InstAt s.heap a oe C (some od) ∧ (∀ n, PySem.W.lookIn n od = some (mA n)) ∧ ∀ g, RelO (fs.lookup g) (mA g) := by
  obtain ⟨ha, _⟩ := I.pin (a, oe) (List.mem_append_left _ hp)
  obtain ⟨vs, hd⟩ := hf
  have hx : ObjOk X.prog X.w H s.heap dd (.xd fs) := I.hok dd _ ed
  obtain ⟨mA, hns, hr⟩ := hx
  obtain ⟨od, ho, hl⟩ := lookIn_ns hns
  exact ⟨od, mA, ⟨ha, hz.1, by unfold PySem.W.notCls; rw [hd] <;> rfl, by rw [hz.2]; exact ho⟩, hl, hr⟩
/-- isinstance(e, c), e the error that is handled -/
def rIsP (K : PySem.W.Frag) (a C dd : Addr) : List V → Hp → VK → Prop := fun xs H Q => ∃ (c : V) (u : Value) (b : Bool) (fs : List (Str × V)), xs = [.ref a, c] ∧ ClsV c u ∧ H dd = some (.xd fs) ∧ PySem.W.kitOne K (.ref C) u = some b ∧ Q (.bl b) H
theorem call_isP (hp : (a, oe) ∈ X.pn) (hz : Zc (.ref C) (some dd) oe) (hf : ∃ vs, oe.data = .fields vs) (T : IsC X.K C) : CallR X (.builtin "isinstance") (rIsP X.K a C dd) := by
  intro pins s σ H xs us Q I r h
  obtain ⟨c, u, b, fs, rfl, kc, ed, e, q⟩ := h
  obtain ⟨u1, u2, rfl, r1, r2⟩ := vals2 r
  have e2 := kc.eq r2
  subst e2
  cases (show u1 = Value.ref a from r1)
  obtain ⟨od, mA, J, _⟩ := inst_pin I hp hz hf ed
  exact PySem.W.kia_one (PySem.W.kitx_exc (gt := none) T.cl T.ga T.gg T.ex T.ha T.hn T.ht T.hm) I.kIn J e (fun z => nomatch z) fun tk => ⟨.bl b, H, I.tok tk, rfl, q⟩
/-- e.f, e the error that is handled -/
def tXp (a dd : Addr) (f : Str) (te : TE) : TE := fun σ H Q => te σ H fun x H1 => ∃ (fs : List (Str × V)) (v : V), x = .ref a ∧ H1 dd = some (.xd fs) ∧ fs.lookup f = some v ∧ Q v H1
theorem pe_xp {e : Expr} {te : TE} {pos : Pos} {n : Str} (T : XfC X.K C) (hno : PySem.W.findIn X.K (.ref C) n = some none) (hp : (a, oe) ∈ X.pn) (hz : Zc (.ref C) (some dd) oe) (hf : ∃ vs, oe.data = .fields vs) (he : PE X e te)
    (hb : attributeBase e n X.env (eval e X.env) = eval e X.env := by rfl) : PE X (.Attribute e n pos) (tXp a dd n te) := by
  refine ⟨fun pins s σ H Q I h => ?_⟩
  refine attr_of hb (thn (he.run pins s σ H _ I h) fun u s1 hh => ?_)
  obtain ⟨x, H1, I1, rx, fs, v, ex, ed, l, q⟩ := hh
  subst ex
  obtain rfl : u = Value.ref a := rx
  obtain ⟨od, mA, J, hl, hr⟩ := inst_pin I1 hp hz hf ed
  obtain ⟨u, hu, ru⟩ := RelO.some_of (v := v) (o := mA n) (by rw [← l]; exact hr n)
  exact HandSPX.exc_get I1.kIn J T.ga T.gg T.exC (PySem.W.findObj_own T.hdC hno rfl (by rw [hl, hu])) (handed_of ru) ⟨v, H1, I1.tok _, ru, q⟩
end
/-! ### a def called where an error is handled -/
structure FnQ (P : Program) (w : World) (K : PySem.W.Frag) (mg : Str → Option Value) (base : Heap) (k : Nat) (f : Addr) (fd : FuncData) (ps : List Str) (sp : Addr → Value → Option Addr → Sp) : Prop where
  len : ∀ a c d vs H Q E, sp a c d vs H Q E → vs.length = ps.length
  run : ∀ (A : Around) (outer : List Env) (s : Shared) (H : Hp) (args : Args) (us : List Value) (vs : List V) (Q : VK) (E : XK) (a : Addr) (oe : Obj) (c : Value) (d : Option Addr), A.guards = some [] → RoomH k A → PinOk outer H s (a, oe) → Zc c d oe → (∃ fs, oe.data = .fields fs) →
    Env0 P w K mg base A outer s H → BindsTo s fd args (ps.zip us) → Vals vs us → sp a c d vs H Q E → codeAny (model P w) A (.call (.ref f) args) (CR CX0 outer P w H s Q E) s
section
variable {P : Program} {w : World} {K : PySem.W.Frag} {mg : Str → Option Value} {base : Heap} {x qual : Str} {params : Arguments} {body : List Stmt} {scope : Scope} {dvs : List V} {kws : List (Str × V)} {f : Addr} {fd : FuncData}
theorem okQ {N ps : List Str} {k : Nat} {sp : Addr → Value → Option Addr → Sp} (F : FunD K x qual params body scope dvs kws f fd) (S : FnScope N ps scope) (len : ∀ a c d vs H Q E, sp a c d vs H Q E → vs.length = ps.length)
    (hbody : ∀ (cdv : Value) (A : Around) (outer : List Env) (s : Shared) (H : Hp) (vs : List V) (Q : VK) (E : XK) (a : Addr) (oe : Obj) (c : Value) (d : Option Addr), (A.deeper (envOfC qual scope s.heap.objs.size f cdv)).guards = some [] → RoomH k (A.deeper (envOfC qual scope s.heap.objs.size f cdv)) → Zc c d oe → (∃ fs, oe.data = .fields fs) → sp a c d vs H Q E →
      ∃ t, PSs (cxH CX0 P w K mg base N qual scope f cdv A outer s H E (a, oe)) body t ∧ t { nx := fun _ H' => Q .non H', rt := Q } (L2.start N vs) H) : FnQ P w K mg base (k + 1) f fd ps sp := by
  obtain ⟨oc, od, dV, kV, doc, pm, an, cdv, ct, osl, rfl, lk, hcd, _, _⟩ := F.ex
  refine ⟨len, fun A outer s H args us vs Q E a oe c d hgd hr hpin hz hf e0 hb r hsp => ?_⟩
  have hlv := len _ _ _ _ _ _ _ hsp
  have KX : K.In s.heap := e0.mod.kin.keeps fun b o e => (e0.bs b o e).1
  have lim : s.heap.NoLimit := e0.mod.nolimit.keeps fun b o e => (e0.bs b o e).1
  have hkd : ∀ y ∈ ps.zip us, scope.names.lookup y.1 = some .local ∨ (scope.names.lookup y.1 = some .cell ∧ ((cellsFrom (s.heap.objs.size + 1) scope.names []).lookup y.1).isSome = true) := fun ⟨n, v⟩ hy => by
    rcases S.par n (List.of_mem_zip hy).1 with q | q
    · exact .inl q
    · exact .inr ⟨q, PySem.W.cellsFrom_some _ _ _ (.inl q)⟩
  refine codeAny_call_function hr.depth (KX _ _ lk) rfl S.co S.gen rfl (PySem.W.codeRec_of KX hcd) (hb _ _ _ _ ?_)
  refine wpAny_newFunctionEnv_cells S.kind hkd fun env he s1 z => ?_
  subst he
  refine ⟨lim.keeps z.toInCall.keep, codeAny_func ?_⟩
  obtain ⟨t, ht, hq⟩ := hbody cdv A outer s H vs Q E a oe c d (deeper_guards hgd) (hr.deeper _) hz hf hsp
  have I : Inv (cxH CX0 P w K mg base N qual scope f cdv A outer s H E (a, oe)) [] (L2.start N vs) H s1 := inv_startH S hpin e0 hlv r z
  refine wpAny_mono (ht.run [] s1 (L2.start N vs) H _ I hq) (fun fl s' hs => ?_) fun e s' hs => hs
  cases fl with
  | ret u =>
    obtain ⟨v, σ', H', J, rv, q⟩ := hs
    exact ⟨v, H', J.os, J.bare, J.base, J.hok, rv, q⟩
  | next =>
    obtain ⟨σ', H', J, q⟩ := hs
    exact ⟨V.non, H', J.os, J.bare, J.base, J.hok, rfl, q⟩
  | brk =>
    obtain ⟨_, _, _, q⟩ := hs
    exact q.elim
  | cont =>
    obtain ⟨_, _, _, q⟩ := hs
    exact q.elim
end
section
variable {X : Cx} {k : Nat} {f : Addr} {fd : FuncData} {ps : List Str} {sp : Addr → Value → Option Addr → Sp} {x : Str} {p pos : Pos} {e : Expr} {es : List Expr} {t : TA} {a : Addr} {oe : Obj} {c : Value} {d : Option Addr}
theorem pe_callQ (F : FnQ X.prog X.w X.K X.mg X.base k f fd ps sp) (hgd : X.A.guards = some []) (hr : RoomH k X.A) (hp : (a, oe) ∈ X.pn) (hz : Zc c d oe) (hf : ∃ vs, oe.data = .fields vs) (hg : Gl X x) (hm : X.mg x = some (.ref f)) (hk : PySem.W.keepIn X.K (.ref f) = true) (hb : Binds X.K fd ps [])
    (ha : PA X (e :: es) t) (hdb : (x == ("__debug__" : Str)) = false := by decide) (he : starEach (e :: es) X.env = (false, eval e X.env) :: starEach es X.env := by rfl) (hpl : (backTo pos (starEach es X.env)).any (·.1) = false := by rfl) :
    PE X (.Call (.Name x p) (e :: es) [] pos) (tCall (sp a c d) [] E0 t) := by
  refine ⟨fun pins s σ H Q I h => ?_⟩
  refine wpAny_Call_Name_kw (ld_glob I hg hm ?_ hdb)
  refine PySem.W.callWith_K (h₀ := X.base) I.ok.mod.kin hk (thn (ha.run pos pins s σ H _ I h) fun us s1 ⟨vs, H1, I1, r, q⟩ => ⟨I1.kIn, ?_⟩) he hpl
  have r2 : Vals (vs ++ []) (us ++ []) := r.append .nil
  have hl : (us ++ []).length = ps.length := by
    rw [← r2.length]
    exact F.len _ _ _ _ _ _ _ q
  have P1 := I1.pin (a, oe) (List.mem_append_left _ hp)
  have hpin : PinOk X.stack H1 s1 (a, oe) := ⟨P1.1, P1.2.1, fun hm => (List.mem_cons.mp (I1.stkSub a hm)).elim P1.2.2.1 P1.2.2.2.1, P1.2.2.2.2⟩
  refine wpAny_call (codeAny_mono (F.run X.A X.stack s1 H1 ⟨us, []⟩ (us ++ []) (vs ++ []) Q E0 a oe c d hgd hr hpin hz hf I1.env0 (hb s1 us I1.kIn hl) r2 q) fun r s' hq => ?_)
  cases r with
  | error er => exact hq.elim
  | ok fl =>
    cases fl with
    | ret u => exact I1.after hq
    | next => exact hq.elim
    | brk => exact hq.elim
    | cont => exact hq.elim
end
end Hy
set_option Elab.async false
set_option linter.all false
set_option maxRecDepth 100000
set_option maxHeartbeats 8000000
namespace Pg
open PySem PySem.Spec PyProof.Rows L2 Gd Rl Te Vd Fx
def top (i : Nat) : Stmt := PySem.Challenge.pw_fallranks_k23_least_refused.main.body.getD i (.Pass ⟨0, 0, 0, 0⟩)
abbrev FnP (K : PySem.W.Frag) (x : Str) (st : Stmt) (f : Addr) (fd : FuncData) : Prop := FunD K x x (defArgs st) (defBody st) (defScope st) [] [] f fd
abbrev sInt : Stmt := top 10
abbrev sInts : Stmt := top 11
abbrev sChk : Stmt := top 15
abbrev sAnyF : Stmt := top 16
def intB : PyData → Bool
  | .int _ => true
  | _ => false
def intsB (n : Nat) : PyData → Bool
  | .tuple ds => decide (ds.length = n) && ds.all intB
  | _ => false
def fmB (d : PyData) : Bool := intsB 2 d || (intsB 3 d || intsB 4 d)
/-- no row is too long -/
def Wd (d : PyData) : Prop := ∀ ds, d = .tuple ds → ds.length ≤ 1000
structure Mo (mg : Str → Option Value) : Prop where
  isi : mg "isinstance" = none
  int : mg "int" = none
  bool : mg "bool" = none
  tuple : mg "tuple" = none
  len : mg "len" = none
  all : mg "all" = none
  any : mg "any" = none
  enum : mg "enumerate" = none
  range : mg "range" = none
  sum : mg "sum" = none
  zip : mg "zip" = none
  mvar : ∃ t, mg "MOST_VARIABLES" = some (.int 3 t)
  mfor : ∃ t, mg "MOST_FORMS" = some (.int 9 t)
def spJ (K : PySem.W.Frag) (B : PyData → Bool) : Sp := fun vs H Q _ => ∃ (v : V) (d : PyData), vs = [v] ∧ Vp K H v d ∧ Wd d ∧ ∀ H', Same H H' → Q (.bl (B d)) H'
def spJ2 (K : PySem.W.Frag) (B : Nat → PyData → Bool) : Sp := fun vs H Q _ => ∃ (v : V) (d : PyData) (m : Nat), vs = [v, .int m] ∧ Vp K H v d ∧ Wd d ∧ ∀ H', Same H H' → Q (.bl (B m d)) H'
theorem getP_at {ds : List PyData} {i : Nat} {d : PyData} (e : ds[i]? = some d) : ds.getD i .none = d := by
  rw [List.getD_eq_getElem?_getD, e]
  rfl
theorem all_getP (l : List PyData) (p : PyData → Bool) : ((List.range l.length).map fun i => p (l.getD i .none)).all id = l.all p := by
  have e : ((List.range l.length).map fun i => p (l.getD i .none)) = l.map p := by
    apply List.ext_getElem
    · simp
    · intro i h1 h2
      simp only [List.length_map, List.length_range] at h1
      simp [List.getD_eq_getElem?_getD, List.getElem?_eq_getElem h1]
  rw [e, List.all_map]
  rfl
theorem all_int : ∀ {ds : List PyData}, ds.all intB = true → ∃ xs : List Int, ds = xs.map PyData.int
  | [], _ => ⟨[], rfl⟩
  | d :: ds, h => by
    rw [List.all_cons, Bool.and_eq_true] at h
    obtain ⟨xs, rfl⟩ := all_int h.2
    cases d with
    | int i => exact ⟨i :: xs, rfl⟩
    | bool b => exact absurd h.1 (by intro z; cases z)
    | none => exact absurd h.1 (by intro z; cases z)
    | str z => exact absurd h.1 (by intro z; cases z)
    | list ds => exact absurd h.1 (by intro z; cases z)
    | tuple ds => exact absurd h.1 (by intro z; cases z)
    | dict ds => exact absurd h.1 (by intro z; cases z)
def fD (xs : List Int) : PyData := .tuple (xs.map PyData.int)
theorem ints_is {m : Nat} {d : PyData} (h : intsB m d = true) : ∃ xs : List Int, d = fD xs ∧ xs.length = m := by
  cases d with
  | tuple ds =>
    have h2 : (decide (ds.length = m) && ds.all intB) = true := h
    obtain ⟨z1, z2⟩ := Bool.and_eq_true_iff.mp h2
    obtain ⟨xs, rfl⟩ := all_int z2
    have z3 := of_decide_eq_true z1
    rw [List.length_map] at z3
    exact ⟨xs, rfl, z3⟩
  | str z => cases h
  | int i => cases h
  | bool b => cases h
  | none => cases h
  | list ds => cases h
  | dict ds => cases h
theorem fm_is {d : PyData} (h : fmB d = true) : ∃ xs : List Int, d = fD xs ∧ 2 ≤ xs.length ∧ xs.length ≤ 4 := by
  unfold fmB at h
  rcases Bool.or_eq_true_iff.mp h with h | h
  · obtain ⟨xs, rfl, e⟩ := ints_is h
    exact ⟨xs, rfl, by omega, by omega⟩
  rcases Bool.or_eq_true_iff.mp h with h | h
  · obtain ⟨xs, rfl, e⟩ := ints_is h
    exact ⟨xs, rfl, by omega, by omega⟩
  · obtain ⟨xs, rfl, e⟩ := ints_is h
    exact ⟨xs, rfl, by omega, by omega⟩
theorem vp_ints {K : PySem.W.Frag} {H : Hp} : ∀ {xs : List V} {ns : List Int}, VpAll K H xs (ns.map PyData.int) → xs = ns.map V.int
  | _, [], h => by cases h; rfl
  | _, n :: ns, h => by
    cases h with
    | cons h1 h2 =>
      cases h1
      rw [vp_ints h2]
      rfl
theorem vp_form {K : PySem.W.Frag} {H : Hp} {v : V} {ns : List Int} (h : Vp K H v (fD ns)) : ∃ a, v = .ref a ∧ SqT K H a (ns.map V.int) := by
  obtain ⟨a, xs, rfl, hs, hx⟩ := vp_tup h
  rw [vp_ints hx] at hs
  exact ⟨a, rfl, hs⟩
section
variable {P : Program} {w : World} {K : PySem.W.Frag} {mg : Str → Option Value} {base : Heap} {f : Addr} {fd : FuncData}
theorem scInt : FnScope ["value"] ["value"] (defScope sInt) := ⟨rfl, rfl, rfl, by decide +kernel, rfl, by decide +kernel, by decide +kernel⟩
theorem ok_int (F : FnP K "is_integer" sInt f fd) (T : Mo mg) : FnOk P w K mg base CX0 1 f fd ["value"] (spJ K intB) := by
  refine F.ok scInt (fun vs H Q E h => ?_) (fun cdv A outer s H vs Q E hr h => ?_)
  · obtain ⟨v, d, rfl, _⟩ := h
    rfl
  · obtain ⟨v, d, rfl, hd, ho, k⟩ := h
    refine ⟨_, PSs.nox <| pss_one (ps_ret (pe_and (pe_callB (call_isV (T := "int")) (by rfl) T.isi boot_isinstance (pa_cons (pv 0) (pa_cons (pe_bltn (v := .ty "int") (by rfl) T.int (by decide +kernel) rfl) pa_nil)))
      (pe_one (pe_not (pe_callB (call_isV (T := "bool")) (by rfl) T.isi boot_isinstance (pa_cons (pv 0) (pa_cons (pe_bltn (v := .ty "bool") (by rfl) T.bool (by decide +kernel) rfl) pa_nil))))))), ?_⟩
    refine ⟨_, rfl, v, d, _, rfl, hd, kit_int d, _, rfl, ?_⟩
    have k0 := k H (Same.refl H)
    cases d with
    | int i => exact ⟨_, rfl, v, _, _, rfl, hd, kit_bool _, _, rfl, k0⟩
    | bool b => exact ⟨_, rfl, v, _, _, rfl, hd, kit_bool _, _, rfl, k0⟩
    | none => exact k0
    | str z => exact k0
    | list ds => exact k0
    | tuple ds => exact k0
    | dict ds => exact k0
theorem scInts : FnScope ["value", "many", "number"] ["value", "many"] (defScope sInts) := ⟨rfl, rfl, rfl, by decide +kernel, rfl, by decide +kernel, by decide +kernel⟩
/-- no element of a row is a long row -/
def Wd2 (d : PyData) : Prop := ∀ ds, d = .tuple ds → ds.length ≤ 1000 ∧ ∀ x ∈ ds, Wd x
def spJ3 (K : PySem.W.Frag) (B : Nat → PyData → Bool) : Sp := fun vs H Q _ => ∃ (v : V) (d : PyData) (m : Nat), vs = [v, .int m] ∧ Vp K H v d ∧ Wd2 d ∧ ∀ H', Same H H' → Q (.bl (B m d)) H'
theorem ok_areints {fI : Addr} {dI : FuncData} (F : FnP K "are_integers" sInts f fd) (T : Mo mg) (FI : FnP K "is_integer" sInt fI dI) (gI : mg "is_integer" = some (.ref fI)) : FnOk P w K mg base CX0 2 f fd ["value", "many"] (spJ3 K intsB) := by
  have GI : FnOk P w K mg base CX0 1 fI dI ["value"] (spJ K intB) := ok_int FI T
  have bI : Binds K dI ["value"] [] := FI.bindsN fun _ _ _ _ _ _ us hl => match us, hl with | [_], _ => rfl
  refine F.ok scInts (fun vs H Q E h => ?_) (fun cdv A outer s H vs Q E hr h => ?_)
  · obtain ⟨v, d, m, rfl, _⟩ := h
    rfl
  · obtain ⟨v, d, m, rfl, hd, ho, k⟩ := h
    refine ⟨_, PSs.nox <| pss_one (ps_ret (pe_and (pe_callB (call_isV (T := "tuple")) (by rfl) T.isi boot_isinstance (pa_cons (pv 0) (pa_cons (pe_bltn (v := .ty "tuple") (by rfl) T.tuple (by decide +kernel) rfl) pa_nil)))
      (pe_and (pe_cmpR op_eq (pe_callB call_len (by rfl) T.len PySem.boot_len (pa_cons (pv 0) pa_nil)) (pv 1) (nomark _))
      (pe_one (pe_callB (cr_all rfl) (by rfl) T.all (by decide +kernel) (pa_cons (pe_lc (own := [("number", 2)]) (g := gName 2) (tt := tYes) rfl scInts.nd (pi_tup (pv 0)) (blkOk_by (N := ["value", "many", "number"]) (sc := defScope sInts) (by decide +kernel)) (fun _ _ _ _ _ => pg_name (i := 2) scInts.nd rfl (Or.inl rfl)) (fun _ _ _ _ _ => pts_nil)
          (fun _ _ _ _ _ => pe_call GI hr (by rfl) gI FI.kp bI .nil pass0 (pa_cons (pv 2) pa_nil))) pa_nil)))))), ?_⟩
    refine ⟨_, rfl, v, d, _, rfl, hd, kit_tuple d, _, rfl, ?_⟩
    have k0 := k H (Same.refl H)
    cases d with
    | tuple ds =>
      obtain ⟨a, xs, rfl, hs, ha⟩ := vp_tup hd
      obtain ⟨hl, hk⟩ := ho ds rfl
      have lx := vp_len ha
      refine ⟨_, rfl, _, xs.length, rfl, .inr ⟨_, hs, rfl⟩, _, rfl, rfl, _, rfl, ?_⟩
      by_cases h1 : ds.length = m
      · have hB : intsB m (.tuple ds) = ds.all intB := by
          show (decide (ds.length = m) && ds.all intB) = _
          rw [decide_eq_true h1, Bool.true_and]
        rw [show decide (V.int ((xs.length : Nat) : Int) = V.int (m : Int)) = true from decide_eq_true (by rw [lx, h1])]
        refine ⟨_, rfl, a, rfl, ⟨_, hs⟩, lcR (walk_tup (xs := xs)) (n1 := by omega) (fun H' s' => Same.seqT s' hs) (fun i y _ => y = .bl (intB (ds.getD i .none))) (fun _ _ _ _ _ e => e) ?_ ?_⟩
        · rintro D acc i x Ha Hb K2 hi s nD hD ⟨rfl, ex⟩ kk
          obtain ⟨d, ed, hx⟩ := vp_at ha ex
          exact ⟨rfl, _, rfl, x, d, rfl, vp_same s hx, hk d (List.mem_of_getElem? ed), fun Hc sc => kk _ _ sc (by rw [getP_at ed])⟩
        · rintro D Hb ys nw hlen he
          have ey : ys = ((List.range ds.length).map fun i => intB (ds.getD i .none)).map V.bl := by
            rw [List.map_map]
            exact list_of (by rw [hlen, lx]) he
          refine ⟨D, _, rfl, by rw [← ey]; exact SqL.of nw.2.1, ?_⟩
          rw [all_getP, ← hB]
          exact k Hb nw.2.2
      · have hB : intsB m (.tuple ds) = false := by
          show (decide (ds.length = m) && ds.all intB) = _
          rw [decide_eq_false h1, Bool.false_and]
        rw [show decide (V.int ((xs.length : Nat) : Int) = V.int (m : Int)) = false from decide_eq_false fun e => h1 (by
          have := V.int.inj e
          omega)]
        rw [hB] at k0
        exact k0
    | int i => exact k0
    | bool b => exact k0
    | none => exact k0
    | list ds => exact k0
    | str z => exact k0
    | dict ds => exact k0
abbrev nAnyF : List Str := ["value", "many"]
def spAF (K : PySem.W.Frag) : Sp := fun vs H Q _ => ∃ (v : V) (d : PyData), vs = [v] ∧ Vp K H v d ∧ Wd2 d ∧ ∀ H', Same H H' → Q (.bl (fmB d)) H'
theorem scAnyF : FnScope nAnyF ["value"] (defScope sAnyF) := ⟨rfl, rfl, rfl, by decide +kernel, rfl, by decide +kernel, by decide +kernel⟩
theorem ok_anyf {fI fM : Addr} {dI dM : FuncData} (F : FnP K "_is_any_form" sAnyF f fd) (T : Mo mg) (FI : FnP K "is_integer" sInt fI dI) (gI : mg "is_integer" = some (.ref fI)) (FM : FnP K "are_integers" sInts fM dM) (gM : mg "are_integers" = some (.ref fM)) : FnOk P w K mg base CX0 3 f fd ["value"] (spAF K) := by
  have GM : FnOk P w K mg base CX0 2 fM dM ["value", "many"] (spJ3 K intsB) := ok_areints FM T FI gI
  have bM : Binds K dM ["value", "many"] [] := FM.bindsN fun _ _ _ _ _ _ us hl => match us, hl with | [_, _], _ => rfl
  obtain ⟨t1, c1⟩ := T.mvar
  refine F.ok scAnyF (fun vs H Q E h => ?_) (fun cdv A outer s H vs Q E hr h => ?_)
  · obtain ⟨v, d, rfl, _⟩ := h
    rfl
  · obtain ⟨v, d, rfl, hd, ho, k⟩ := h
    refine ⟨_, PSs.nox <| pss_one (ps_ret (pe_callB (cr_any rfl) (by rfl) T.any (by decide +kernel) (pa_cons (pe_lc (own := [("many", 1)]) (g := gName 1) (tt := tYes) rfl scAnyF.nd (pi_range2 (by rfl) T.range (pa_cons pe_int (pa_cons (pe_op op_add (pe_glob (v := .int 3) (by rfl) c1 ⟨_, rfl⟩) pe_int) pa_nil))) (blkOk_by (N := nAnyF) (sc := defScope sAnyF) (by decide +kernel)) (fun _ _ _ _ _ => pg_name (i := 1) scAnyF.nd rfl (Or.inl rfl)) (fun _ _ _ _ _ => pts_nil)
          (fun _ _ _ _ _ => pe_call GM hr (by rfl) gM FM.kp bM .nil pass0 (pa_cons (pv 0) (pa_cons (pe_op op_add (pv 1) pe_int) pa_nil)))) pa_nil))), ?_⟩
    refine ⟨_, _, rfl, rfl, 1, 4, rfl, ⟨by decide, by decide, by decide, by decide⟩, lcR (walk_range (lo := 1) (n := 3)) (n1 := by decide) (fun H' s' => trivial) (fun i y _ => y = .bl (intsB (i + 2) d)) (fun _ _ _ _ _ e => e) ?_ ?_⟩
    · rintro D acc i x Ha Hb K2 hi s nD hD ⟨rfl, rfl⟩ kk
      refine ⟨rfl, _, rfl, _, rfl, _, _, rfl, rfl, v, d, i + 2, (by show [v, V.int ((1 : Int) + (i : Nat) + 1)] = _; rw [show (1 : Int) + (i : Nat) + 1 = ((i + 2 : Nat) : Int) by omega]), vp_same s hd, ho, fun Hc sc => kk _ _ sc rfl⟩
    · rintro D Hb ys nw hlen he
      have ey : ys = ((List.range 3).map fun i => intsB (i + 2) d).map V.bl := by
        rw [List.map_map]
        exact list_of hlen he
      refine ⟨D, _, rfl, by rw [← ey]; exact SqL.of nw.2.1, ?_⟩
      have e : (((List.range 3).map fun i => intsB (i + 2) d).any id) = fmB d := by
        unfold fmB
        simp [List.range_succ]
      rw [e]
      exact k Hb nw.2.2
end
end Pg
set_option Elab.async false
set_option linter.all false
set_option maxRecDepth 100000
set_option maxHeartbeats 8000000
namespace Hz
open PySem PySem.Spec PyProof.Rows L2 Fx
/-! what is looked at of a class of errors over an own base, with its own __init__ -/
def wn (r : Nat) : Str := (["WrongValue", "WrongName", "NotPossible"] : List Str).getD r ""
def bn (r : Nat) : String := (["ValueError", "LookupError", "ArithmeticError"] : List String).getD r ""
def bmOf (r : Nat) : List Value := [.type (bn r), .type "Exception", .type "BaseException", .type "object"]
def newOf (r : Nat) : String := (["ValueError.__new__", "LookupError.__new__", "ArithmeticError.__new__"] : List String).getD r ""
def initOf (r : Nat) : String := (["ValueError.__init__", "LookupError.__init__", "ArithmeticError.__init__"] : List String).getD r ""
/-- the text of a one-parameter __init__ -/
def Txt1 (st : Stmt) (f : Str) : Prop := ∃ (msg : Str) (kM : Nat) (p1 p2 q1 q2 q3 q4 q5 q6 r1 r2 r3 r4 : Pos), defArgs st = iA1 f p1 p2 ∧ defBody st = [iSup msg kM q1 q2 q3 q4 q5 q6, iSet f r1 r2 r3 r4] ∧ defScope st = iS1 f ∧ (q3.endLine == q5.line) = true
def clsB (K : PySem.W.Frag) (C W : Addr) (bm : List Value) (nw : String) : Bool := match K.lookup C with
  | some ⟨.type "type", _, .cls cd, sl⟩ => (match sl.toList with
    | [_, _, _, _, some (.builtin n), _] => decide (cd.mro = .ref C :: .ref W :: bm) && (n == nw && (!cd.hasDel && cd.hasDict))
    | _ => false)
  | _ => false
theorem clsB_ok {K : PySem.W.Frag} {C W : Addr} {bm : List Value} {nw : String} (h : clsB K C W bm nw = true) : ∃ nm q N bs sn sub ab col dd k0 k1 k2 k3 k5, K.lookup C = some (excClassObj nm q C N bs (.ref W :: bm) true sn sub ab col dd k0 k1 k2 k3 k5 nw) := by
  unfold clsB at h
  split at h
  · rename_i dd cd sl ho
    split at h
    · rename_i k0 k1 k2 k3 n k5 hs
      obtain ⟨h1, h⟩ := Bool.and_eq_true_iff.mp h
      obtain ⟨h2, h⟩ := Bool.and_eq_true_iff.mp h
      obtain ⟨h3, h4⟩ := Bool.and_eq_true_iff.mp h
      have e1 := of_decide_eq_true h1
      have e2 := eq_of_beq h2
      obtain ⟨nm, bs, mro, ns, qn, hd, sn, sub, ab, col, del⟩ := cd
      dsimp only at e1 h3 h4
      have e3 : del = false := by simpa using h3
      subst e1 e2 e3 h4
      obtain ⟨l⟩ := sl
      have hs' : l = [k0, k1, k2, k3, some (.builtin n), k5] := hs
      subst hs'
      exact ⟨nm, qn, ns, bs, sn, sub, ab, col, dd, k0, k1, k2, k3, k5, ho⟩
    · cases h
  · cases h
abbrev eC (K : PySem.W.Frag) (x : Str) : Addr := He.ga K x
abbrev eW (K : PySem.W.Frag) (r : Nat) : Addr := He.ga K (wn r)
abbrev eI (K : PySem.W.Frag) (x : Str) : Addr := He.ma K (eC K x) "__init__"
/-- what isinstance asks of a class -/
def isB (K : PySem.W.Frag) (C : Addr) : Bool := (PySem.W.clsIn K C).isSome && (He.eqO (PySem.W.findIn K (.ref C) "__getattribute__") (some (some (.builtin "BaseException.__getattribute__"))) && (He.eqO (PySem.W.findIn K (.ref C) "__getattr__") (some none) && (decide (PySem.W.subIn K (.ref C) (.type "BaseException") = some true) &&
  (He.eqO (PySem.W.findIn K (.ref C) "__class__") (some (some (.builtin "object.__class__"))) && (He.eqO (PySem.W.specialIn K (.builtin "object.__class__") "__get__") (some (some (.builtin "getset_descriptor.__get__"))) && (decide (PySem.W.takesIn K (.builtin "object.__class__") = some true) && decide (PySem.W.mroIn K C (.type "object") = some true)))))))
theorem isB_ok {K : PySem.W.Frag} {C : Addr} (h : isB K C = true) : IsC K C := by
  obtain ⟨h1, h⟩ := Bool.and_eq_true_iff.mp h
  obtain ⟨h2, h⟩ := Bool.and_eq_true_iff.mp h
  obtain ⟨h3, h⟩ := Bool.and_eq_true_iff.mp h
  obtain ⟨h4, h⟩ := Bool.and_eq_true_iff.mp h
  obtain ⟨h5, h⟩ := Bool.and_eq_true_iff.mp h
  obtain ⟨h6, h⟩ := Bool.and_eq_true_iff.mp h
  obtain ⟨h7, h8⟩ := Bool.and_eq_true_iff.mp h
  exact ⟨h1, He.eqO_ok h2, He.eqO_ok h3, of_decide_eq_true h4, He.eqO_ok h5, He.eqO_ok h6, of_decide_eq_true h7, of_decide_eq_true h8⟩
/-- the function of an __init__ -/
def fnB (K : PySem.W.Frag) (C fI : Addr) : Bool := match K.lookup fI with
  | some ⟨_, _, .func fd, _⟩ => (match fd.code, fd.closure with
    | .ref cda, [(_, cc)] => PySem.W.codeIn K (.ref cda) fd.qualname && ((match K.lookup cda with
        | some ⟨_, _, .fields vs, _⟩ => (match (vs[2]? : Option Value) with
          | some (.str file _) => file == ("/claim/cut.py" : Str)
          | _ => false)
        | _ => false) && (match K.lookup cc with
        | some ⟨_, _, .cell (some (.ref c)), _⟩ => decide (c = C)
        | _ => false))
    | _, _ => false)
  | _ => false
abbrev FnI : Type := Option (Str × Arguments × FuncBody × Scope × Addr × List Str × Value × Addr)
def fnI (K : PySem.W.Frag) (fI : Addr) : FnI := match K.lookup fI with
  | some ⟨_, _, .func fd, _⟩ => some (fd.name, fd.params, fd.body, fd.scope, fd.globals, fd.closure.map (·.1), fd.defaults, fd.builtins)
  | _ => none
def fnV (st : Stmt) : FnI := some ("__init__", defArgs st, .stmts (defBody st), defScope st, mainGlobals, ["__class__"], .none, builtinsNs)
theorem fn_ok {K : PySem.W.Frag} {C fI : Addr} {st : Stmt} (e : fnI K fI = fnV st) (b : fnB K C fI = true) : ∃ (oc : Value) (od : Option Addr) (qual : Str) (kV doc pm : Value) (an : Option Addr) (cda cc : Addr) (ct : Value) (osl : Array (Option Value)) (vs : Array Value) (file : Str) (tf : Tok) (ccl cl : Value) (cdd cld : Option Addr) (ccs csl : Array (Option Value)),
    K.lookup fI = some ⟨oc, od, .func (PySem.W.ksFn "__init__" qual (defArgs st) (defBody st) (defScope st) .none kV doc pm an (.ref cda) ct cc), osl⟩ ∧ PySem.W.codeIn K (.ref cda) qual = true ∧ K.lookup cda = some ⟨ccl, cdd, .fields vs, ccs⟩ ∧ vs[2]? = some (.str file tf) ∧ file = "/claim/cut.py" ∧ K.lookup cc = some ⟨cl, cld, .cell (some (.ref C)), csl⟩ := by
  unfold fnI at e
  unfold fnB at b
  split at e
  · rename_i oc od fd osl ho
    rw [ho] at b
    dsimp only at b
    split at b
    · rename_i cda y cc h1 h2
      obtain ⟨b1, b⟩ := Bool.and_eq_true_iff.mp b
      obtain ⟨b2, b3⟩ := Bool.and_eq_true_iff.mp b
      split at b2
      · rename_i ccl cdd vs ccs h3
        split at b2
        · rename_i file tf h4
          split at b3
          · rename_i cl cld c csl h5
            have e5 := of_decide_eq_true b3
            subst e5
            obtain ⟨n1, n2, n3, n4, n5, n6, n7, n8, n9, n10, n11, n12, n13, n14, n15⟩ := fd
            dsimp only at h1 h2 b1
            subst h1 h2
            unfold fnV at e
            simp only [Option.some.injEq, Prod.mk.injEq, List.map_cons, List.map_nil, List.cons.injEq, and_true] at e
            obtain ⟨rfl, rfl, rfl, rfl, rfl, rfl, rfl, rfl⟩ := e
            exact ⟨oc, od, n2, n9, n10, n11, n12, cda, cc, n14, osl, vs, file, tf, ccl, cl, cdd, cld, ccs, csl, ho, b1, h3, h4, eq_of_beq b2, h5⟩
          · cases b3
        · cases b2
      · cases b2
    · cases b
  · cases e
/-- all of a class of errors: its name, its field, its base -/
def kindB (K : PySem.W.Frag) (C : Addr) (r : Nat) : Bool := (List.range 3).all fun j => decide (PySem.W.kitOne K (.ref C) (.ref (eW K j)) = some (r == j)) && decide (PySem.W.kitOne K (.ref C) (.type (bn j)) = some (r == j))
def errB (K : PySem.W.Frag) (x f : Str) (r : Nat) : Bool := clsB K (eC K x) (eW K r) (bmOf r) (newOf r) && (He.eqO (PySem.W.findIn K (.ref (eC K x)) "__setattr__") (some (some (.builtin "object.__setattr__"))) && (He.eqO (PySem.W.findIn K (.ref (eC K x)) "__init__") (some (some (.ref (eI K x)))) &&
  (decide (PySem.W.typeIn K (.ref (eI K x)) = some (.type "function")) && (PySem.W.keepIn K (.ref (eC K x)) && (He.eqO (PySem.W.alongIn K "__init__" (.ref (eW K r) :: bmOf r)) (some (some (.builtin (initOf r)))) &&
  (He.eqO (PySem.W.findIn K (.ref (eC K x)) f) (some none) && (isB K (eC K x) && (PySem.W.hasDictIn K (eC K x) && (kindB K (eC K x) r &&
  (He.eqO (PySem.W.nsIn K mainGlobals x) (some (some (.ref (eC K x)))) && (fnB K (eC K x) (eI K x) && (decide (PySem.W.typeIn K (.ref (eC K x)) = some (.type "type")) && (decide (PySem.W.exmAny K (.ref (eC K x)) [.ref (eW K 0), .ref (eW K 1), .ref (eW K 2)] = some true) && He.eqO (PySem.W.nsIn K cStatics "thirdparty.any") (some none))))))))))))))
/-- the bases are where they are said to be -/
def baseB (K : PySem.W.Frag) : Bool := (List.range 3).all fun r => He.eqO (PySem.W.nsIn K mainGlobals (wn r)) (some (some (.ref (eW K r))))
structure Err (P : Program) (K : PySem.W.Frag) (mg : Str → Option Value) (x f : Str) (r : Nat) : Prop where
  e : Err1 P K mg (newOf r) (initOf r) (bmOf r) (eC K x) (eW K r) (eI K x) f
  i : IsC K (eC K x)
  xf : XfC K (eC K x)
  g : mg x = some (.ref (eC K x))
  ty : PySem.W.typeIn K (.ref (eC K x)) = some (.type "type")
  any : PySem.W.exmAny K (.ref (eC K x)) [.ref (eW K 0), .ref (eW K 1), .ref (eW K 2)] = some true
  own : ∀ j, j < 3 → PySem.W.kitOne K (.ref (eC K x)) (.ref (eW K j)) = some (r == j)
  bas : ∀ j, j < 3 → PySem.W.kitOne K (.ref (eC K x)) (.type (bn j)) = some (r == j)
section
variable {P : Program} {K : PySem.W.Frag} {mg : Str → Option Value} {h : Heap}
theorem err_ok {x f : Str} {r : Nat} {st : Stmt} (hP : (P.main.file == ("/claim/cut.py" : Str)) = true) (hS : (P.main.scope.names.lookup ("super" : Str)).isSome = false) (X : K.In h) (G : h.Ns mainGlobals mg) (su : mg "super" = none) (ff : f = "given" ∨ f = "index")
    (b : errB K x f r = true) (v : fnI K (eI K x) = fnV st) (t : Txt1 st f) : Err P K mg x f r := by
  obtain ⟨z1, z⟩ := Bool.and_eq_true_iff.mp b
  obtain ⟨z2, z⟩ := Bool.and_eq_true_iff.mp z
  obtain ⟨z3, z⟩ := Bool.and_eq_true_iff.mp z
  obtain ⟨z4, z⟩ := Bool.and_eq_true_iff.mp z
  obtain ⟨z5, z⟩ := Bool.and_eq_true_iff.mp z
  obtain ⟨z6, z⟩ := Bool.and_eq_true_iff.mp z
  obtain ⟨z7, z⟩ := Bool.and_eq_true_iff.mp z
  obtain ⟨z8, z⟩ := Bool.and_eq_true_iff.mp z
  obtain ⟨z9, z⟩ := Bool.and_eq_true_iff.mp z
  obtain ⟨z10, z⟩ := Bool.and_eq_true_iff.mp z
  obtain ⟨z11, z⟩ := Bool.and_eq_true_iff.mp z
  obtain ⟨z12, z⟩ := Bool.and_eq_true_iff.mp z
  obtain ⟨z13, z⟩ := Bool.and_eq_true_iff.mp z
  obtain ⟨z14, z15⟩ := Bool.and_eq_true_iff.mp z
  have kit : ∀ j, j < 3 → PySem.W.kitOne K (.ref (eC K x)) (.ref (eW K j)) = some (r == j) ∧ PySem.W.kitOne K (.ref (eC K x)) (.type (bn j)) = some (r == j) := fun j hj => by
    obtain ⟨q1, q2⟩ := Bool.and_eq_true_iff.mp (List.all_eq_true.mp z10 j (List.mem_range.mpr hj))
    exact ⟨of_decide_eq_true q1, of_decide_eq_true q2⟩
  have ic := isB_ok z8
  obtain ⟨oc, od, qual, kV, doc, pm, an, cda, cc, ct, osl, vs, file, tf, ccl, cl, cdd, cld, ccs, csl, e1, e2, e3, e4, rfl, e6⟩ := fn_ok v z12
  obtain ⟨msg, kM, p1, p2, q1, q2, q3, q4, q5, q6, r1, r2, r3, r4, t1, t2, t3, t4⟩ := t
  rw [t1, t2, t3] at e1
  exact ⟨⟨⟨clsB_ok z1, He.eqO_ok z2, He.eqO_ok z3, of_decide_eq_true z4, z5, He.eqO_ok z6, He.eqO_ok z15, su⟩, ⟨oc, od, qual, msg, kM, kV, doc, pm, an, cda, cc, ct, osl, p1, p2, q1, q2, q3, q4, q5, q6, r1, r2, r3, r4, vs, _, tf, ccl, cl, cdd, cld, ccs, csl, e1, e2, e3, e4, hP, e6, hS, t4⟩, He.eqO_ok z7, ff⟩,
    ic, ⟨ic.ga, ic.gg, ic.ex, z9⟩, PySem.W.mg_of X G (He.eqO_ok z11), of_decide_eq_true z13, of_decide_eq_true z14, fun j hj => (kit j hj).1, fun j hj => (kit j hj).2⟩
theorem base_ok (X : K.In h) (G : h.Ns mainGlobals mg) (b : baseB K = true) (r : Nat) (hr : r < 3) : mg (wn r) = some (.ref (eW K r)) := PySem.W.mg_of X G (He.eqO_ok (List.all_eq_true.mp b r (List.mem_range.mpr hr)))
end
end Hz
set_option Elab.async false
set_option linter.all false
set_option maxRecDepth 100000
set_option maxHeartbeats 8000000
namespace Gd
open PySem PySem.Spec PyProof.Rows L2
/-! a law's end with tables of code objects, its promise kept where nothing is being shown -/
section
variable {P : Program} {w : World} {K : PySem.W.Frag} {mg mb : Str → Option Value} {k : Nat} {fa a : Addr} {fd : FuncData} {x : Str} {sp : Sp} {z : Shared} {vs : List Value} {cs : List (Addr × Addr)}
/-- what is known of the tables -/
structure TabH (K : PySem.W.Frag) (mg : Str → Option Value) (cs : List (Addr × Addr)) (h : Heap) : Prop where
  empty : ∀ p ∈ cs, h.get? p.2 = some { cls := .none, data := .fields #[] }
  out : ∀ p ∈ cs, K.lookup p.2 = none
  code : ∀ p ∈ cs, PySem.W.CodeHd h p.1 p.2
  mod : ∃ (bm : Addr) (ob : Obj), mg "__builtins__" = some (.ref bm) ∧ bm ≠ builtinsNs ∧ h.get? bm = some ob ∧ ob.cls = .type "module" ∧ ob.dict = some builtinsNs ∧ ob.data = .plain
theorem law_coreT {H : Hp} (KX : K.In z.heap) (g1 : z.heap.Ns mainGlobals mg) (g2 : z.heap.Ns builtinsNs mb) (g3 : ∀ y : Str, y ≠ "__name__" → mb y = bootBuiltins y) (g4 : z.heap.NoLimit) (g5 : z.gens = #[]) (T : TabH K mg cs z.heap)
    (ha : z.heap.get? a = some { cls := .type "list", data := .seq vs.toArray }) (hr : Room k callerA) (F : ∀ base : Heap, K.In base → base.Ns mainGlobals mg → (∀ p ∈ cs, LamX.TabB base mg p.1 p.2) → FnG P w K mg base k fa fd [x] sp) (hbind : ∀ (s : Shared) (u : Value), BindsTo s fd ⟨[u], []⟩ [(x, u)])
    (hH : ∀ p ∈ cs, H p.2 = some (.tbl #[])) (only : ∀ b, H b = none ∨ b ∈ cs.map (·.2) ∨ ∃ o xs, H b = some (.frz o (.lst xs))) (hsp : sp [.ref a] H (fun v _ => v = .bl true) fun _ _ _ => False) (ok : HOk P w H z.heap) (hA : ∀ b, H b ≠ none → b = a ∨ b ∈ cs.map (·.2)) (hK : H a ≠ none → K.lookup a = none) :
    codeAny (model P w) callerA (.call (.ref fa) ⟨[.ref a], []⟩) (fun r s' => r = .ok (.ret (.bool true)) ∧ OldK z.heap s'.heap ∧ s'.os = z.os ∧ AllBare s'.gens) z := by
  have tab : ∀ {b : Addr}, b ∈ cs.map (·.2) → ∃ p ∈ cs, p.2 = b := fun {b} hb => List.mem_map.mp hb
  have out : ∀ {b : Addr} {o : Obj}, z.heap.get? b = some o → (∀ xs n, o.data ≠ .seq xs n) → o.data ≠ .fields #[] → H b = none := by
    intro b o e h1 h2
    cases q : H b with
    | none => rfl
    | some u =>
      rcases hA b (by rw [q]; exact fun y => nomatch y) with e' | e'
      · subst e'
        rw [ha] at e
        cases e
        exact absurd rfl (h1 _ _)
      · obtain ⟨p, hp, rfl⟩ := tab e'
        rw [T.empty p hp] at e
        cases e
        exact absurd rfl h2
  have dictOut : ∀ {b : Addr} {o : Obj} {es : Array DictEntry} {ep : Nat}, z.heap.get? b = some o → o.data = .dict es ep → H b = none := fun {b o es ep} e d =>
    out e (fun xs n q => by rw [d] at q; cases q) (fun q => by rw [d] at q; cases q)
  have ns : ∀ {b : Addr} {m : Str → Option Value}, z.heap.Ns b m → (hidT z.heap H).Ns b m := by
    intro b m ⟨o, es, ep, e, d, r⟩
    exact ⟨o, es, ep, hidT_get e (dictOut e d), d, r⟩
  have kin : K.In (hidT z.heap H) := by
    intro b o e
    refine hidT_get (KX b o e) ?_
    cases q : H b with
    | none => rfl
    | some u =>
      rcases hA b (by rw [q]; exact fun y => nomatch y) with e' | e'
      · subst e'
        rw [hK (by rw [q]; exact fun y => nomatch y)] at e
        cases e
      · obtain ⟨p, hp, rfl⟩ := tab e'
        rw [T.out p hp] at e
        cases e
  have mod : Mod K mg (hidT z.heap H) := by
    obtain ⟨mc, h1, h2⟩ := g4
    exact ⟨kin, ns g1, ⟨mb, ns g2, g3⟩, ⟨mc, ns h1, h2⟩⟩
  have tb : ∀ p ∈ cs, LamX.TabB (hidT z.heap H) mg p.1 p.2 := by
    intro p hp
    refine ⟨?_, ?_, fun q => ?_⟩
    · obtain ⟨o, us, file, tf, flags, tg, inF, text, tt, e1, r1, r2, r3, r⟩ := T.code p hp
      refine ⟨o, us, file, tf, flags, tg, inF, text, tt, hidT_get e1 (out e1 (fun xs n q => by rw [r2] at q; cases q) fun q => ?_), r1, r2, r3, r⟩
      rw [r2] at q
      cases q
      simp at r3
    · obtain ⟨bm, ob, b1, b2, b3, b4, b5, b6⟩ := T.mod
      refine ⟨bm, ob, b1, b2, fun q => ?_, fun q => ?_, hidT_get b3 (out b3 (fun xs n q => by rw [b6] at q; cases q) fun q => by rw [b6] at q; cases q), b4, b5, b6⟩
      · obtain ⟨o, es, ep, e, d, _⟩ := g1
        rw [q, e] at b3
        cases b3
        rw [d] at b6
        cases b6
      · rw [q, T.empty p hp] at b3
        cases b3
        cases b6
    · obtain ⟨o, es, ep, e, d, _⟩ := g1
      rw [q, T.empty p hp] at e
      cases e
      cases d
  have e0 : Env0 P w K mg (hidT z.heap H) callerA [] z H :=
    ⟨rfl, mod, fun b o e => of_hidT e, Nat.le_of_eq (hidT_size _ _), trivial, fun b hb => (nomatch (show b ∈ ([] : List Addr) from hb)), ok, .of_eq g5⟩
  refine codeAny_mono ((F _ kin (ns g1) tb).run callerA [] z H ⟨[.ref a], []⟩ [.ref a] [.ref a] _ _ rfl hr e0 (hbind z (.ref a)) (.cons rfl .nil) hsp) fun r s' h => ?_
  cases r with
  | error e => exact h.elim
  | ok fl =>
    cases fl with
    | next => exact h.elim
    | brk => exact h.elim
    | cont => exact h.elim
    | ret u =>
      obtain ⟨v, H', os, bare, un, ok', r', q⟩ := h
      obtain rfl : v = V.bl true := q
      have eu : u = Value.bool true := r'
      subst eu
      have keep : ∀ b o, b ∉ cs.map (·.2) → z.heap.get? b = some o → s'.heap.get? b = some o := fun b o nb e => by
        cases q : H b with
        | none => exact un.keep b o e q (fun y => nomatch (show b ∈ ([] : List Addr) from y)) (fun y => nomatch y)
        | some u =>
          rcases only b with y | y | ⟨ob, xs, y⟩
          · rw [q] at y
            cases y
          · exact absurd y nb
          · obtain ⟨e1, _⟩ := ok b _ y
            obtain ⟨e2, _⟩ := ok' b _ (un.frzs b ob _ y)
            rw [e] at e1
            cases e1
            exact e2
      have grown : ∀ p ∈ cs, ∃ more : Array Value, s'.heap.get? p.2 = some { cls := .none, data := .fields more } := fun p hp => by
        obtain ⟨more, y⟩ := un.tbls p.2 #[] (hH p hp)
        exact ⟨_, ok' p.2 _ y⟩
      refine ⟨rfl, ⟨fun b o e => ?_, fun b o e => ?_⟩, os, bare⟩
      · by_cases hb : b ∈ cs.map (·.2)
        · obtain ⟨p, hp, rfl⟩ := tab hb
          obtain ⟨more, hm⟩ := grown p hp
          rw [T.empty p hp] at e
          cases e
          exact .inr (.inl ⟨((T.code p hp).tab (T.empty p hp)).isCodeTable, rfl, #[], more, rfl, by rw [Array.empty_append]; exact hm⟩)
        · exact .inl (keep b o hb e)
      · by_cases hb : b ∈ cs.map (·.2)
        · obtain ⟨p, hp, rfl⟩ := tab hb
          obtain ⟨more, hm⟩ := grown p hp
          exact ⟨_, hm⟩
        · exact ⟨o, keep b o hb e⟩
theorem law_callT {ns : List Int} (KX : K.In z.heap) (g1 : z.heap.Ns mainGlobals mg) (g2 : z.heap.Ns builtinsNs mb) (g3 : ∀ y : Str, y ≠ "__name__" → mb y = bootBuiltins y) (g4 : z.heap.NoLimit) (g5 : z.gens = #[]) (T : TabH K mg cs z.heap)
    (ha : z.heap.get? a = some { cls := .type "list", data := .seq vs.toArray }) (hi : IntsAre vs ns) (hl : ns.length ≤ sizeLine) (hr : Room k callerA) (F : ∀ base : Heap, K.In base → base.Ns mainGlobals mg → (∀ p ∈ cs, LamX.TabB base mg p.1 p.2) → FnG P w K mg base k fa fd [x] sp) (hbind : ∀ (s : Shared) (u : Value), BindsTo s fd ⟨[u], []⟩ [(x, u)])
    (hsp : ∀ H : Hp, (∀ p ∈ cs, H p.2 = some (.tbl #[])) → SqL K H a (ns.map V.int) → sp [.ref a] H (fun v _ => v = .bl true) fun _ _ _ => False) :
    codeAny (model P w) callerA (.call (.ref fa) ⟨[.ref a], []⟩) (fun r s' => r = .ok (.ret (.bool true)) ∧ OldK z.heap s'.heap ∧ s'.os = z.os ∧ AllBare s'.gens) z := by
  have rv := vals_ints hi
  have lv := hi.length
  have aT : ∀ p ∈ cs, p.2 ≠ a := fun p hp q => by
    have e := T.empty p hp
    rw [q, ha] at e
    cases e
  have mem : ∀ p ∈ cs, p.2 ∈ cs.map (·.2) := fun p hp => List.mem_map.mpr ⟨p, hp, rfl⟩
  have laid : ∀ b, b ∈ cs.map (·.2) → z.heap.get? b = some { cls := .none, data := .fields #[] } := fun b hb => by
    obtain ⟨p, hp, rfl⟩ := List.mem_map.mp hb
    exact T.empty p hp
  cases hk : K.lookup a with
  | some o =>
    have e := KX a o hk
    rw [ha] at e
    cases e
    let H : Hp := fun b => if b ∈ cs.map (·.2) then some (.tbl #[]) else none
    have on : ∀ b, b ∈ cs.map (·.2) → H b = some (.tbl #[]) := fun b hb => if_pos hb
    have off : ∀ b, b ∉ cs.map (·.2) → H b = none := fun b hb => if_neg hb
    have sq : SqL K H a (ns.map V.int) := .inr ⟨_, vs.toArray, _, hk, rfl, rfl, rfl, by rw [List.size_toArray, lv]; exact hl, by simpa using rv⟩
    have na : H a = none := off a fun q => by
      obtain ⟨p, hp, e⟩ := List.mem_map.mp q
      exact aT p hp e
    refine law_coreT (H := H) KX g1 g2 g3 g4 g5 T ha hr F hbind (fun p hp => on _ (mem p hp)) (fun b => ?_) (hsp H (fun p hp => on _ (mem p hp)) sq) (fun b u y => ?_) (fun b y => ?_) fun y => absurd na y
    · by_cases hb : b ∈ cs.map (·.2)
      · exact .inr (.inl hb)
      · exact .inl (off b hb)
    · by_cases hb : b ∈ cs.map (·.2)
      · rw [on b hb] at y
        cases y
        exact laid b hb
      · rw [off b hb] at y
        cases y
    · by_cases hb : b ∈ cs.map (·.2)
      · exact .inr hb
      · exact absurd (off b hb) y
  | none =>
    let H : Hp := fun b => if b = a then some (.frz { cls := .type "list", data := .seq vs.toArray } (.lst (ns.map V.int))) else if b ∈ cs.map (·.2) then some (.tbl #[]) else none
    have at_a : H a = some (.frz { cls := .type "list", data := .seq vs.toArray } (.lst (ns.map V.int))) := if_pos rfl
    have on : ∀ p ∈ cs, H p.2 = some (.tbl #[]) := fun p hp => (if_neg (aT p hp)).trans (if_pos (mem p hp))
    have onB : ∀ b, b ∈ cs.map (·.2) → H b = some (.tbl #[]) := fun b hb => by
      obtain ⟨p, hp, rfl⟩ := List.mem_map.mp hb
      exact on p hp
    have off : ∀ b, b ≠ a → b ∉ cs.map (·.2) → H b = none := fun b h1 h2 => (if_neg h1).trans (if_neg h2)
    refine law_coreT (H := H) KX g1 g2 g3 g4 g5 T ha hr F hbind on (fun b => ?_) (hsp H on (.inl (.inr ⟨_, at_a⟩))) (fun b u y => ?_) (fun b y => ?_) fun _ => hk
    · by_cases hb : b = a
      · subst hb
        exact .inr (.inr ⟨_, _, at_a⟩)
      · by_cases hb2 : b ∈ cs.map (·.2)
        · exact .inr (.inl hb2)
        · exact .inl (off b hb hb2)
    · by_cases hb : b = a
      · subst hb
        rw [at_a] at y
        cases y
        refine ⟨ha, ?_, vs, _, rv, ha⟩
        rw [List.length_map]
        exact hl
      · by_cases hb2 : b ∈ cs.map (·.2)
        · rw [onB b hb2] at y
          cases y
          exact laid b hb2
        · rw [off b hb hb2] at y
          cases y
    · by_cases hb : b = a
      · exact .inl hb
      · by_cases hb2 : b ∈ cs.map (·.2)
        · exact .inr hb2
        · exact absurd (off b hb hb2) y
end
/-- the end over a head by facts and tables -/
theorem walk_GT {l : PySem.W.OpenLaw} {n k : Nat} {q : Program} {loose : List Str} {XP : (Str → Option Value) → Heap → Prop} {YP : World → Heap → Prop} {d : DefRec} {x : Str}
    (hn : l.most = some n) (hn2 : n ≤ sizeLine) (hdf : d.params.defaults = []) (hr : Room k callerA)
    (F : ∀ (w : World) (mg : Str → Option Value) (fa : Addr) (h : Heap), YP w h → h.Ns mainGlobals mg → mg d.name = some (.ref fa) →
      ∃ (K : PySem.W.Frag) (fd : FuncData) (sp : Sp) (cs : List (Addr × Addr)), K.In h ∧ ((∀ p ∈ cs, h.get? p.2 = some { cls := .none, data := .fields #[] }) ∧ (∀ p ∈ cs, K.lookup p.2 = none) ∧ ∀ p ∈ cs, PySem.W.CodeHd h p.1 p.2) ∧ (∀ (s : Shared) (u : Value), BindsTo s fd ⟨[u], []⟩ [(x, u)]) ∧
        (∀ (H : Hp) (a : Addr) (ns : List Int), ns.length ≤ n → (∀ y ∈ ns, Builtin.Int.intBits y ≤ 1048576) → (∀ p ∈ cs, H p.2 = some (.tbl #[])) → SqL K H a (ns.map V.int) → sp [.ref a] H (fun v _ => v = .bl true) fun _ _ _ => False) ∧
        ∀ base : Heap, K.In base → base.Ns mainGlobals mg → (∀ p ∈ cs, LamX.TabB base mg p.1 p.2) → FnG l.prog w K mg base k fa fd [x] sp) :
    PySem.W.WalkO q loose XP YP l.row.toRowW d [] (fun f vs => PySem.call f vs) := by
  refine Att.attach_callB hn hdf fun w s₀ z mg mb fa o pm cd doc a vs ns G Y ho hd hcd hmg hobj hints hlen hbits hg => ?_
  obtain ⟨K, fd, sp, cs, KX, ⟨t1, t2, t3⟩, hb, hsp, hF⟩ := F w mg fa _ Y G.T.g hmg
  exact law_callT KX G.T.g G.T.b G.T.builtins G.T.nolimit hg ⟨t1, t2, t3, G.T.bmain⟩ hobj hints (Nat.le_trans hlen hn2) hr hF hb fun H hH hS => hsp H a ns hlen hbits hH hS
end Gd
set_option Elab.async false
set_option linter.all false
set_option maxRecDepth 100000
set_option maxHeartbeats 0
namespace K5
open PySem PySem.Spec PyProof.Rows L2 Gd Rl
/-! ### the head -/
def dd (x : Str) (st : Stmt) : He.DefD := ⟨(x, none), x, x, defArgs st, defBody st, defScope st, [], []⟩
def fn : List He.DefD := [dd "is_integer" (Pg.top 10), dd "are_integers" (Pg.top 11), dd "weighed" (Pg.top 12), dd "least" (Pg.top 14), dd "_check_tests" (Pg.top 15), dd "_is_any_form" (Pg.top 16), dd "least_at" (Pg.top 17), dd "reach_points" (Pg.top 18), dd "lowest" (Pg.top 19), dd "arrows" (Pg.top 20), dd "_cut" (Pg.top 21), dd "_leveled" (Pg.top 22), dd "_cut_arrows" (Pg.top 23), dd "_are_neighbours" (Pg.top 24), dd "_law_well" (Pg.top 26), dd "_law_draw" (Pg.top 27), dd "_law_pick" (Pg.top 28), dd "_law_caught" (Pg.top 29), dd "_law_is_shape" (Pg.top 30), dd "_law_due" (Pg.top 31), dd "_law_odd" (Pg.top 32), dd "_law_right" (Pg.top 33), dd "law" (Pg.top 34)]
def fa : List He.Fa := [.glo "is_integer", .glo "are_integers", .glo "weighed", .glo "least", .glo "_check_tests", .glo "_is_any_form", .glo "least_at", .glo "reach_points", .glo "lowest", .glo "arrows", .glo "_cut", .glo "_leveled", .glo "_cut_arrows", .glo "_are_neighbours", .glo "_law_well", .glo "_law_draw", .glo "_law_pick", .glo "_law_caught", .glo "_law_is_shape", .glo "_law_due", .glo "_law_odd", .glo "_law_right", .glo "law", .free "isinstance", .free "int", .free "bool", .free "tuple", .free "len", .free "all", .free "any", .free "enumerate", .free "range", .free "sum", .free "zip", .free "divmod", .free "abs", .free "repr", .free "str", .free "max", .free "min", .free "super", .free "ValueError", .int "MOST_VARIABLES" 3, .int "MOST_FORMS" 9]
abbrev eSt0 : Stmt := inClass (Pg.top 4) 0
theorem eTx0 : Hz.Txt1 eSt0 "index" := ⟨_, _, _, _, _, _, _, _, _, _, _, _, _, _, rfl, rfl, rfl, rfl⟩
abbrev eSt1 : Stmt := inClass (Pg.top 3) 0
theorem eTx1 : Hz.Txt1 eSt1 "given" := ⟨_, _, _, _, _, _, _, _, _, _, _, _, _, _, rfl, rfl, rfl, rfl⟩
def el : List (Str × Str × Nat × Stmt) := [("InvalidForms", "index", 0, eSt0), ("InvalidForm", "given", 0, eSt1)]
def tf : List He.Defn := [("_law_right", none)]
def kits (K : PySem.W.Frag) : Bool := decide (PySem.W.kitOne K (.ref (Hz.eC K "InvalidForms")) (.ref (Hz.eC K "InvalidForms")) = some true) && (decide (PySem.W.kitOne K (.ref (Hz.eC K "InvalidForm")) (.ref (Hz.eC K "InvalidForms")) = some false) && decide (PySem.W.kitOne K (.ref (Hz.eC K "InvalidForm")) (.ref (Hz.eC K "InvalidForm")) = some true))
def exB (K : PySem.W.Frag) : Bool := (Hz.baseB K && el.all fun e => Hz.errB K e.1 e.2.1 e.2.2.1) && (kits K && He.eqO (PySem.W.nsIn K mainGlobals "gcd") (some (some (.builtin "math.gcd"))))
/-- what is come to in n rounds, each address once: what was seen is one number, a sign of it an address -/
def addF (p : Nat × List Addr) (r : Addr) : Nat × List Addr := match Nat.testBit p.1 r with
  | true => p
  | false => (p.1 ||| (1 <<< r), r :: p.2)
def layF (g : Addr → Option Obj) (seen : Nat) (front : List Addr) : Nat × List Addr := front.foldl (fun p a => match g a with
  | some o => (He.refsD o).foldl addF p
  | none => p) (seen, [])
def asF (g : Addr → Option Obj) : Nat → List Addr → Nat → List Addr → List Addr
  | 0, all, _, _ => all
  | n + 1, all, seen, front => match layF g seen front with
    | (s, f) => asF g n (f ++ all) s f
def asK (g : Addr → Option Obj) (n : Nat) : List Addr := cStatics :: asF g n [mainGlobals] (1 <<< mainGlobals) [mainGlobals]
abbrev AlK : Type := (Bool × List He.FnW) × (Bool × List Hz.FnI)
def obsK (K : PySem.W.Frag) : AlK := (He.obsD fa fn K, (exB K, el.map fun e => Hz.fnI K (Hz.eI K e.1)))
def valK : AlK := (He.valD fn, (true, el.map fun e => Hz.fnV e.2.2.2))
def SaysK (K : PySem.W.Frag) : Prop := obsK K = valK
def TabsK (h : Heap) (K : PySem.W.Frag) : Prop := ∀ p ∈ tf, PySem.W.codeHdIn K (He.cT K p).1 (He.cT K p).2 = true ∧ K.lookup (He.cT K p).2 = none ∧ h.get? (He.cT K p).2 = some { cls := .none, data := .fields #[] }
def obsKG (g : Addr → Option Obj) : AlK := (He.obsD fa fn (He.frT g (asK g 5)), (exB (He.frT g (asK g 5)) && He.tabsB g tf (He.frT g (asK g 5)), el.map fun e => Hz.fnI (He.frT g (asK g 5)) (Hz.eI (He.frT g (asK g 5)) e.1)))
theorem says_of {h : Heap} (e : obsKG h.get? = valK) : SaysK (He.frT h.get? (asK h.get? 5)) ∧ TabsK h (He.frT h.get? (asK h.get? 5)) := by
  have e1 := congrArg (fun z : AlK => z.1) e
  have e2 : (exB (He.frT h.get? (asK h.get? 5)) && He.tabsB h.get? tf (He.frT h.get? (asK h.get? 5))) = true := congrArg (fun z : AlK => z.2.1) e
  have e3 := congrArg (fun z : AlK => z.2.2) e
  obtain ⟨h1, h2⟩ := Bool.and_eq_true_iff.mp e2
  refine ⟨Prod.ext e1 (Prod.ext h1 e3), fun p hp => ?_⟩
  obtain ⟨h3, h4⟩ := Bool.and_eq_true_iff.mp (List.all_eq_true.mp h2 p hp)
  cases q : h.get? (He.cT (He.frT h.get? (asK h.get? 5)) p).2 with
  | none =>
    rw [q] at h4
    cases h4
  | some o =>
    rw [q] at h4
    exact ⟨h3, He.frT_none q h4, by rw [He.emptyTab_eq h4]⟩
def hk : PySem.W.Hook where
  α := AlK
  obs := fun s => obsKG s.heap.get?
  val := fun _ => valK
  says := fun _ h => ∃ K : PySem.W.Frag, K.In h ∧ SaysK K ∧ TabsK h K
  of := fun _ _ e => ⟨_, He.frT_in, says_of e⟩
  keeps := fun _ _ _ ⟨K, i, c, t⟩ k => ⟨K, PySem.W.Frag.In.keeps i k, c, fun p hp => ⟨(t p hp).1, (t p hp).2.1, k _ _ (t p hp).2.2⟩⟩
abbrev R : PySem.W.OpenRow := PySem.W.OpenLaw.row PySem.Challenge.rw_fallranks_k23_least_refused
def ob (s : PySem.W.SharedT) : AlK := obsKG (HandSHeadRun.getT s)
theorem ob_eq (s : PySem.W.SharedT) : ob s = hk.obs s.abs := by
  have e : HandSHeadRun.getT s = s.abs.heap.get? := funext (HandSHeadRun.getT_eq s)
  unfold ob
  rw [e]
  rfl
def names : List Str := ["WrongValue", "InvalidForm", "InvalidForms", "WrongName", "NotPossible", "MOST_VARIABLES", "MOST_FORMS", "is_integer", "are_integers", "weighed", "least", "_check_tests", "_is_any_form", "least_at", "reach_points", "lowest", "arrows", "_cut", "_leveled", "_cut_arrows", "_are_neighbours", "_law_well", "_law_draw", "_law_pick", "_law_caught", "_law_is_shape", "_law_due", "_law_odd", "_law_right"]
theorem run (w : World) : HandSHeadRun.RunEqI R (PySem.W.view R.prog [0, 34]) hk ob 9000 names w := by
  unfold HandSHeadRun.RunEqI
  kernel_rfl
end K5
set_option Elab.async false
set_option linter.all false
set_option maxRecDepth 100000
set_option maxHeartbeats 8000000
namespace Pg
open PySem PySem.Spec PyProof.Rows L2 Gd Rl Te Vd Fx Hy
/-- a def from which errors go out -/
theorem okX {P : Program} {w : World} {K : PySem.W.Frag} {mg : Str → Option Value} {base : Heap} {x qual : Str} {params : Arguments} {body : List Stmt} {scope : Scope} {dvs : List V} {kws : List (Str × V)} {f : Addr} {fd : FuncData} {N ps : List Str} {k : Nat} {sp : Sp}
    (F : FunD K x qual params body scope dvs kws f fd) (S : FnScope N ps scope) (len : ∀ vs H Q E, sp vs H Q E → vs.length = ps.length)
    (hbody : ∀ (cdv : Value) (A : Around) (outer : List Env) (s : Shared) (H : Hp) (vs : List V) (Q : VK) (E : XK), Room k (A.deeper (envOfC qual scope s.heap.objs.size f cdv)) → sp vs H Q E →
      ∃ t, PSs (cxOf (L2.CX P w) P w K mg base N qual scope f cdv A outer s H E) body t ∧ t { nx := fun _ H' => Q .non H', rt := Q } (L2.start N vs) H) : FnOk P w K mg base (L2.CX P w) (k + 1) f fd ps sp := by
  obtain ⟨oc, od, dV, kV, doc, pm, an, cdv, ct, osl, rfl, lk, hcd, _, _⟩ := F.ex
  exact fn_of lk hcd S len fun A outer s H vs Q E hr hsp => hbody cdv A outer s H vs Q E hr hsp
/-- what is known of an own error of one field -/
structure ErrK (prog : Program) (K : PySem.W.Frag) (mg : Str → Option Value) (x : Str) (C W fI : Addr) (f : Str) : Prop where
  e : Err1 prog K mg "ValueError.__new__" "ValueError.__init__" [.type "ValueError", .type "Exception", .type "BaseException", .type "object"] C W fI f
  g : mg x = some (.ref C)
  sub : PySem.W.subIn K (.ref C) (.type "BaseException") = some true
  ty : PySem.W.typeIn K (.ref C) = some (.type "type")
theorem iteDN {c A B : Prop} [Decidable c] (hc : ¬ c) (h : B) : if decide c = true then A else B := by
  rw [decide_eq_false hc]
  exact iteF h
theorem iteDY {c A B : Prop} [Decidable c] (hc : c) (h : A) : if decide c = true then A else B := by
  rw [decide_eq_true hc]
  exact iteT h
abbrev OutV (E : XK) (H : Hp) (CE : Addr) (f : Str) (v : V) : Prop := ∀ H1 dd, Same H H1 → H1 dd = none → E (.ref CE) (some dd) (upd H1 dd (.xd [(f, v)]))
/-- how long a row is -/
def lenD : PyData → Nat
  | .tuple ds => ds.length
  | _ => 0
def badT (ds : List PyData) (i : Nat) : Bool := decide (9 ≤ i) || (!fmB (ds.getD i .none) || !decide (lenD (ds.getD i .none) = lenD (ds.getD 0 .none)))
/-- nothing in it is long -/
def Wd3 (d : PyData) : Prop := ∀ ds, d = .tuple ds → ds.length ≤ 1000 ∧ ∀ x ∈ ds, Wd2 x
section
variable {P : Program} {w : World} {K : PySem.W.Frag} {mg : Str → Option Value} {base : Heap} {f : Addr} {fd : FuncData}
def spCT (K : PySem.W.Frag) (CE : Addr) : Sp := fun vs H Q E => ∃ (v : V) (d : PyData), vs = [v] ∧ Vp K H v d ∧ Wd3 d ∧ (∀ ds, d = .tuple ds → (∀ i, i < ds.length → badT ds i = false) → ∀ H', Same H H' → Q .non H') ∧
  ((∀ ds, d ≠ .tuple ds) → OutV E H CE "index" .non) ∧ (∀ ds i, d = .tuple ds → i < ds.length → (∀ j, j < i → badT ds j = false) → badT ds i = true → OutV E H CE "index" (.int (i : Nat)))
abbrev nChk : List Str := ["tests", "at", "test"]
theorem scChk : FnScope nChk ["tests"] (defScope sChk) := ⟨rfl, rfl, rfl, by decide +kernel, rfl, by decide +kernel, by decide +kernel⟩
theorem ok_chk {fI fM fA CN WN fE : Addr} {dI dM dA : FuncData} (F : FnP K "_check_tests" sChk f fd) (T : Mo mg) (FI : FnP K "is_integer" sInt fI dI) (gI : mg "is_integer" = some (.ref fI)) (FM : FnP K "are_integers" sInts fM dM) (gM : mg "are_integers" = some (.ref fM))
    (FA : FnP K "_is_any_form" sAnyF fA dA) (gA : mg "_is_any_form" = some (.ref fA)) (XE : ErrK P K mg "InvalidForms" CN WN fE "index") : FnOk P w K mg base (L2.CX P w) 4 f fd ["tests"] (spCT K CN) := by
  have GA : FnOk P w K mg base CX0 3 fA dA ["value"] (spAF K) := ok_anyf FA T FI gI FM gM
  have bA : Binds K dA ["value"] [] := FA.bindsN fun _ _ _ _ _ _ us hl => match us, hl with | [_], _ => rfl
  obtain ⟨t1, c1⟩ := T.mfor
  refine okX F scChk (fun vs H Q E h => ?_) (fun cdv A outer s H vs Q E hr h => ?_)
  · obtain ⟨v, d, rfl, _⟩ := h
    rfl
  · obtain ⟨v, d, rfl, hv, hf, kY, kN0, kN⟩ := h
    have hr2 := hr.mono (show 2 ≤ 3 by decide)
    refine ⟨_, pss_cons (ps_if (pt_not (pt_val (pe_callB (call_isV (T := "tuple")) (by rfl) T.isi boot_isinstance (pa_cons (pv 0) (pa_cons (pe_bltn (v := .ty "tuple") (by rfl) T.tuple (by decide +kernel) rfl) pa_nil)))))
        (pss_one (ps_raise rfl (takes_of rfl rfl rfl rfl) (pmk_err rootV XE.e (raises_own XE.sub XE.ty) hr2 XE.g (by rfl) pe_non))) pss_nil)
      <| pss_one (ps_for (passes_of rfl) rfl (pi_enumT (by rfl) T.enum (pa_cons (pv 0) pa_nil)) (pg_tup (by rfl) (pgs_cons (pg_name (i := 1) scChk.nd rfl (.inl rfl)) (pgs_cons (pg_name (i := 2) scChk.nd rfl (.inl rfl)) pgs_nil)))
          (pss_one (ps_if (PW.pt (pw_or (pt_cmpR op_ge (pv 1) (pe_glob (v := .int 9) (by rfl) c1 ⟨_, rfl⟩) (nomark _))
            (pw_or (pt_not (pt_val (pe_call GA hr (by rfl) gA FA.kp bA .nil pass0 (pa_cons (pv 2) pa_nil)))) (pw_or1 (pt_cmpR op_ne (pe_callB call_len (by rfl) T.len PySem.boot_len (pa_cons (pv 2) pa_nil)) (pe_callB call_len (by rfl) T.len PySem.boot_len (pa_cons (pe_ix (r := rIxT K) ix_tup (pv 0) pe_int (fun _ _ => rfl)) pa_nil)) (nomark _)))))) (pss_one (ps_raise rfl (takes_of rfl rfl rfl rfl) (pmk_err rootV XE.e (raises_own XE.sub XE.ty) hr2 XE.g (by rfl) (pv 1)))) pss_nil))), ?_⟩
    refine ⟨_, rfl, v, d, _, rfl, hv, kit_tuple _, _, rfl, ?_⟩
    cases d with
    | tuple ds =>
      refine iteF ?_
      obtain ⟨a, xs, rfl, hs, hxs⟩ := vp_tup hv
      have lx := vp_len hxs
      obtain ⟨fl, fs⟩ := hf ds rfl
      refine ⟨_, rfl, a, _, rfl, hs, for_it walk_enumT (fun j σ H' => ∃ x1 x2, σ = [some (.ref a), x1, x2] ∧ Same H H' ∧ ∀ i, i < j → badT ds i = false) ⟨_, _, rfl, Same.refl H, fun i hi => absurd hi (Nat.not_lt_zero i)⟩ (fun j σ H' _ ⟨_, _, _, s, _⟩ => Same.seqT s hs) ?_ ?_⟩
      · rintro j x σ H1 H2 hj ⟨x1, x2, rfl, s1, hall⟩ ⟨N, y, z, rfl, nT, rfl, ey, ez⟩
        cases ey
        obtain ⟨dz, edz, hz⟩ := vp_at hxs ez
        have hj2 : j < ds.length := (List.getElem?_eq_some_iff.mp edz).1
        have s2 : Same H (upd H1 N (.tup [.int (j : Nat), z])) := s1.trans (same_new nT)
        have eg := getP_at edz
        refine ⟨N, _, rfl, SqT.of upd_same, rfl, _, _, rfl, _, _, rfl, rfl, ?_⟩
        refine ⟨_, rfl, _, _, rfl, rfl, _, rfl, ?_⟩
        have raise : ∀ {H3 : Hp}, Same H H3 → badT ds j = true → OutV E H3 CN "index" (.int (j : Nat)) := fun s3 hb H4 dd s4 nd => kN ds j rfl hj2 hall hb H4 dd (s3.trans s4) nd
        by_cases h3 : (9 : Int) ≤ (j : Nat)
        · refine iteDY h3 ?_
          refine ⟨_, rfl, fun dd nd => raise s2 ?_ _ dd (Same.refl _) nd⟩
          unfold badT
          rw [decide_eq_true (show 9 ≤ j by omega)]
          rfl
        refine iteDN h3 ?_
        refine ⟨_, rfl, z, dz, rfl, vp_same s2 hz, fs dz (List.mem_of_getElem? edz), fun H3 s3 => ⟨_, rfl, ?_⟩⟩
        have s13 := s2.trans s3
        cases hb : fmB dz with
        | false =>
          refine iteT ?_
          refine ⟨_, rfl, fun dd nd => raise s13 ?_ _ dd (Same.refl _) nd⟩
          unfold badT
          rw [eg, hb]
          simp
        | true =>
          refine iteF ?_
          obtain ⟨ns, rfl, hns⟩ := fm_is hb
          obtain ⟨b, rfl, hsb⟩ := vp_form (vp_same s13 hz)
          -- the first one
          have hd0 : fmB (ds.getD 0 .none) = true := by
            rcases Nat.eq_zero_or_pos j with h | h
            · subst h
              rw [eg, hb]
            · have := hall 0 h
              unfold badT at this
              cases q : fmB (ds.getD 0 .none) with
              | true => rfl
              | false =>
                rw [q] at this
                simp at this
          obtain ⟨n0, e0, hn0⟩ := fm_is hd0
          have hlt0 : 0 < ds.length := by omega
          have ed0 : ds[0]? = some (fD n0) := by
            rw [← e0, List.getD_eq_getElem?_getD, List.getElem?_eq_getElem hlt0]
            rfl
          obtain ⟨x0, ex0⟩ : ∃ x0, xs[0]? = some x0 := ⟨_, List.getElem?_eq_getElem (by omega)⟩
          obtain ⟨d0, ed0', hx0⟩ := vp_at hxs ex0
          cases ed0.symm.trans ed0'
          obtain ⟨b0, rfl, hsb0⟩ := vp_form (vp_same s13 hx0)
          refine ⟨_, rfl, _, _, rfl, .inr ⟨_, hsb, rfl⟩, _, rfl, a, _, 0, _, rfl, rfl, Same.seqT s13 hs, atI_nat ex0, _, _, rfl, .inr ⟨_, hsb0, rfl⟩, rfl, _, rfl, ?_⟩
          have l1 : lenD (ds.getD j .none) = ns.length := by
            rw [eg]
            show (ns.map PyData.int).length = _
            rw [List.length_map]
          have l0 : lenD (ds.getD 0 .none) = n0.length := by
            rw [e0]
            show (n0.map PyData.int).length = _
            rw [List.length_map]
          have eb : badT ds j = !decide (ns.length = n0.length) := by
            unfold badT
            rw [decide_eq_false (show ¬ 9 ≤ j by omega), eg, hb]
            rw [eg] at l1
            rw [l1, l0]
            rfl
          simp only [List.length_map]
          by_cases hl : ns.length = n0.length
          · rw [show (!decide (V.int ((ns.length : Nat) : Int) = V.int ((n0.length : Nat) : Int))) = false by rw [hl]; simp]
            refine iteF ?_
            refine ⟨_, _, rfl, s13, fun i hi => ?_⟩
            rcases Nat.lt_or_ge i j with h | h
            · exact hall i h
            · have : i = j := by omega
              subst this
              rw [eb, hl]
              simp
          · rw [show (!decide (V.int ((ns.length : Nat) : Int) = V.int ((n0.length : Nat) : Int))) = true by
              rw [decide_eq_false fun e => hl (by have := V.int.inj e; omega)]
              rfl]
            refine iteT ⟨_, rfl, fun dd nd => raise s13 (by rw [eb, decide_eq_false hl]; rfl) _ dd (Same.refl _) nd⟩
      · rintro σ H' ⟨x1, x2, rfl, s1, hall⟩
        exact kY ds rfl (fun i hi => hall i (by omega)) H' s1
    | int i => exact iteT fun dd nd => kN0 (fun _ e => nomatch e) H dd (Same.refl H) nd
    | none => exact iteT fun dd nd => kN0 (fun _ e => nomatch e) H dd (Same.refl H) nd
    | bool b => exact iteT fun dd nd => kN0 (fun _ e => nomatch e) H dd (Same.refl H) nd
    | str z => exact iteT fun dd nd => kN0 (fun _ e => nomatch e) H dd (Same.refl H) nd
    | list ds => exact iteT fun dd nd => kN0 (fun _ e => nomatch e) H dd (Same.refl H) nd
    | dict ds => exact iteT fun dd nd => kN0 (fun _ e => nomatch e) H dd (Same.refl H) nd
end
end Pg
set_option Elab.async false
set_option linter.all false
set_option maxRecDepth 100000
set_option maxHeartbeats 8000000
set_option exponentiation.threshold 10000
namespace Te
open PySem PySem.Spec PyProof.Rows L2 Gd Rl RZ
theorem walk_zipT {K : PySem.W.Frag} {a b : Addr} {xs ys : List V} {n : Nat} (hn : n = min xs.length ys.length) : Walk (ItzT K a b) n (fun H => SqT K H a xs ∧ SqT K H b ys) (YPair (fun i => xs[i]?) (fun i => ys[i]?)) := by
  subst hn
  refine ⟨fun i _ hi q => ?_, fun _ q => ⟨xs, ys, q.1, q.2, by omega⟩, fun i H v H' _ q y => ?_⟩
  · have h1 : i < xs.length := by omega
    have h2 : i < ys.length := by omega
    exact ⟨xs, ys, xs[i], ys[i], q.1, q.2, by simp [h1], by simp [h2]⟩
  · obtain ⟨T, x, z, h1, h2, h3, h4, h5⟩ := y
    exact ⟨T, x, z, h1, h2, h3, h4 xs q.1, h5 ys q.2⟩
end Te
/-! vectors of whole numbers -/
namespace Dd
def gcdF (ns : List Int) : Nat := ns.foldl (fun c n => Nat.gcd c n.natAbs) 0
def lowF (ns : List Int) : List Int := ns.map fun z => z / (gcdF ns : Int)
def dot (f g : List Int) : Int := ((List.range g.length).map fun i => f.getD i 0 * g.getD i 0).sum
def combF (hi va : Int) (a u : List Int) : List Int := (List.range a.length).map fun i => hi * a.getD i 0 - va * u.getD i 0
def levF (a u t : List Int) : List Int := lowF (combF (dot t u) (dot t a) a u)
def Bd (b : Nat) (g : List Int) : Prop := ∀ z ∈ g, z.natAbs < 2 ^ b
theorem gcd_snoc (ns : List Int) (z : Int) : gcdF (ns ++ [z]) = Nat.gcd (gcdF ns) z.natAbs := by
  unfold gcdF
  rw [List.foldl_append]
  rfl
theorem gcd_fold_dvd : ∀ (ns : List Int) (c : Nat), ns.foldl (fun c n => Nat.gcd c n.natAbs) c ∣ c ∧ ∀ z ∈ ns, ns.foldl (fun c n => Nat.gcd c n.natAbs) c ∣ z.natAbs
  | [], c => ⟨Nat.dvd_refl _, fun z h => by cases h⟩
  | n :: ns, c => by
    obtain ⟨h1, h2⟩ := gcd_fold_dvd ns (Nat.gcd c n.natAbs)
    refine ⟨Nat.dvd_trans h1 (Nat.gcd_dvd_left _ _), fun z hz => ?_⟩
    rcases List.mem_cons.mp hz with rfl | hz
    · exact Nat.dvd_trans h1 (Nat.gcd_dvd_right _ _)
    · exact h2 z hz
theorem gcd_dvd {ns : List Int} {z : Int} (h : z ∈ ns) : ((gcdF ns : Nat) : Int) ∣ z := Int.ofNat_dvd_left.mpr ((gcd_fold_dvd ns 0).2 z h)
theorem gcd_pos {ns : List Int} {z : Int} (h : z ∈ ns) (hz : z ≠ 0) : 0 < gcdF ns := by
  rcases Nat.eq_zero_or_pos (gcdF ns) with e | e
  · have := (gcd_fold_dvd ns 0).2 z h
    have e2 : ns.foldl (fun c n => Nat.gcd c n.natAbs) 0 = 0 := e
    rw [e2] at this
    have := Nat.eq_zero_of_zero_dvd this
    omega
  · exact e
theorem gcd_le {ns : List Int} {z : Int} (h : z ∈ ns) (hz : z ≠ 0) : gcdF ns ≤ z.natAbs := Nat.le_of_dvd (by omega) ((gcd_fold_dvd ns 0).2 z h)
theorem gcd_small {ns : List Int} {b : Nat} (hb : Bd b ns) : gcdF ns < 2 ^ b := by
  by_cases h : ∃ z ∈ ns, z ≠ 0
  · obtain ⟨z, hz, h0⟩ := h
    exact Nat.lt_of_le_of_lt (gcd_le hz h0) (hb z hz)
  · have e : ∀ (ns : List Int), (∀ z ∈ ns, z = 0) → ns.foldl (fun c n => Nat.gcd c n.natAbs) 0 = 0 := by
      intro ns
      induction ns with
      | nil => intro _; rfl
      | cons n ns ih =>
        intro h
        rw [List.foldl_cons, h n (List.mem_cons_self ..)]
        exact ih fun z hz => h z (List.mem_cons_of_mem _ hz)
    have e0 : gcdF ns = 0 := e ns fun z hz => Classical.byContradiction fun q => h ⟨z, hz, q⟩
    rw [e0]
    exact Nat.two_pow_pos b
end Dd
namespace Pg
open PySem PySem.Spec PyProof.Rows L2 Gd Rl Te Vd Fx RZ Dd
abbrev sWei : Stmt := top 12
abbrev sLow : Stmt := top 19
abbrev sLev : Stmt := top 22
theorem mulI : ∀ {X : Cx}, OpR X (binaryOp .Mult) (rI (fun i j => IntMulOk i j) fun i j => .int (i * j)) := fun {X} => opI fun _ _ _ _ _ _ _ hc q => mul_int q hc
theorem bits_le {z : Int} {b : Nat} (h : z.natAbs < 2 ^ b) : Builtin.Int.intBits z ≤ b := intBits_le_iff.mpr h
theorem mul_ok {i j : Int} {a b : Nat} (ha : i.natAbs < 2 ^ a) (hb : j.natAbs < 2 ^ b) (h1 : a ≤ 1000000) (h2 : b ≤ 1000000) : IntMulOk i j := IntMulOk.of_le (Nat.le_trans (bits_le ha) h1) (Nat.le_trans (bits_le hb) h2) (by decide)
theorem getD_mem {l : List Int} {i : Nat} (h : i < l.length) : l.getD i 0 ∈ l := by
  rw [List.getD_eq_getElem?_getD, List.getElem?_eq_getElem h]
  exact List.getElem_mem h
theorem getD_at {l : List Int} {i : Nat} {v : V} (e : (l.map V.int)[i]? = some v) : v = .int (l.getD i 0) ∧ i < l.length := by
  rw [List.getElem?_map] at e
  cases q : l[i]? with
  | none =>
    rw [q] at e
    cases e
  | some z =>
    rw [q] at e
    rw [List.getD_eq_getElem?_getD, q]
    exact ⟨(Option.some.inj e).symm, (List.getElem?_eq_some_iff.mp q).1⟩
section
variable {P : Program} {w : World} {K : PySem.W.Frag} {mg : Str → Option Value} {base : Heap} {f : Addr} {fd : FuncData}
def spWei (K : PySem.W.Frag) : Sp := fun vs H Q _ => ∃ (a b : Addr) (g xs : List Int) (m n : Nat), vs = [.ref a, .ref b] ∧ SqT K H a (g.map V.int) ∧ SqT K H b (xs.map V.int) ∧ g.length = xs.length ∧ xs.length ≤ 1000 ∧ Bd m g ∧ Bd n xs ∧ m ≤ 900000 ∧ n ≤ 900000 ∧ ∀ H', Same H H' → Q (.int (dot g xs)) H'
abbrev nWei : List Str := ["form", "numbers", "one", "other"]
theorem scWei : FnScope nWei ["form", "numbers"] (defScope sWei) := ⟨rfl, rfl, rfl, by decide +kernel, rfl, by decide +kernel, by decide +kernel⟩
theorem ok_wei (F : FnP K "weighed" sWei f fd) (M : Mo mg) : FnOk P w K mg base CX0 1 f fd ["form", "numbers"] (spWei K) := by
  refine F.ok scWei (fun vs H Q E h => ?_) (fun cdv A outer s H vs Q E hr h => ?_)
  · obtain ⟨a, b, g, xs, m, n, rfl, _⟩ := h
    rfl
  · obtain ⟨a, b, g, xs, m, n, rfl, ha, hb, hl, h1, bg, bx, bm, bn, k⟩ := h
    refine ⟨_, PSs.nox <| pss_one (ps_ret (pe_callB (cr_sum rfl) (by rfl) M.sum (by decide +kernel) (pa_cons (pe_lc (own := [("one", 2), ("other", 3)]) (g := gTup K 2 (gCons (gName 2) (gCons (gName 3) gNil))) (tt := tYes) rfl scWei.nd (pi_zipA (by rfl) M.zip (pa_cons (pv 0) (pa_cons (pv 1) pa_nil))) (blkOk_by (N := nWei) (sc := defScope sWei) (by decide +kernel))
        (fun _ _ _ _ _ => pg_tup (by rfl) (pgs_cons (pg_name (i := 2) scWei.nd rfl (.inl rfl)) (pgs_cons (pg_name (i := 3) scWei.nd rfl (.inl rfl)) pgs_nil)))
        (fun _ _ _ _ _ => pts_nil) (fun _ _ _ _ _ => pe_op mulI (pv 2) (pv 3))) pa_nil))), ?_⟩
    refine ⟨_, rfl, _, rfl, a, b, _, _, rfl, .inr ⟨ha, hb, lcR (walk_zipT (xs := g.map V.int) (ys := xs.map V.int) (n := xs.length) (by rw [List.length_map, List.length_map, hl]; omega)) (n1 := h1) (fun H' s' => ⟨Same.seqT s' ha, Same.seqT s' hb⟩) (fun i y _ => y = .int (g.getD i 0 * xs.getD i 0)) (fun _ _ _ _ _ e => e) ?_ ?_⟩⟩
    · rintro D acc i x Ha Hb K2 hi s nD hD ⟨T, y, z, rfl, nT, rfl, ey, ez⟩ kk
      obtain ⟨rfl, l1⟩ := getD_at ey
      obtain ⟨rfl, l2⟩ := getD_at ez
      refine ⟨T, _, rfl, SqT.of upd_same, rfl, _, _, rfl, _, _, rfl, rfl, rfl, ?_⟩
      exact ⟨_, rfl, _, rfl, _, _, rfl, rfl, mul_ok (bg _ (getD_mem l1)) (bx _ (getD_mem l2)) (by omega) (by omega), kk _ _ (same_new nT) rfl⟩
    · rintro D Hb ys nw hlen he
      have ey : ys = ((List.range xs.length).map fun i => g.getD i 0 * xs.getD i 0).map V.int := by
        rw [List.map_map]
        exact list_of hlen he
      exact ⟨D, _, rfl, by rw [← ey]; exact SqL.of nw.2.1, k Hb nw.2.2⟩
/-! ### a vector in its least form -/
def spLow (K : PySem.W.Frag) : Sp := fun vs H Q _ => ∃ (a : Addr) (ns : List Int), vs = [.ref a] ∧ (SqL K H a (ns.map V.int) ∨ SqT K H a (ns.map V.int)) ∧ ns.length ≤ 1000 ∧ 0 < gcdF ns ∧ gcdF ns < 2 ^ 9000 ∧ ∀ b H', Same H H' → SqT K H' b ((lowF ns).map V.int) → Q (.ref b) H'
abbrev nLow : List Str := ["numbers", "common", "number"]
theorem scLow : FnScope nLow ["numbers"] (defScope sLow) := ⟨rfl, rfl, rfl, by decide +kernel, rfl, by decide +kernel, by decide +kernel⟩
theorem ok_low (F : FnP K "lowest" sLow f fd) (M : Mo mg) (gg : mg "gcd" = some (.builtin "math.gcd")) : FnOk P w K mg base CX0 1 f fd ["numbers"] (spLow K) := by
  refine F.ok scLow (fun vs H Q E h => ?_) (fun cdv A outer s H vs Q E hr h => ?_)
  · obtain ⟨a, ns, rfl, _⟩ := h
    rfl
  · obtain ⟨a, ns, rfl, ha, hl, g0, g9, k⟩ := h
    have gn : ∀ i, i < ns.length → gcdF (ns.take (i + 1)) = Nat.gcd (gcdF (ns.take i)) (ns.getD i 0).natAbs := fun i hi => by
      rw [List.take_add_one, List.getElem?_eq_getElem hi]
      show gcdF (ns.take i ++ [ns[i]]) = _
      rw [gcd_snoc, List.getD_eq_getElem?_getD, List.getElem?_eq_getElem hi]
      rfl
    have lg : ((gcdF ns : Nat) : Int).natAbs.log2 < 9000 := by
      rw [Int.natAbs_natCast]
      exact (Nat.log2_lt (by omega)).mpr g9
    rcases ha with ha | ha
    · refine ⟨_, PSs.nox <| pss_cons (ps_set (i := 1) scLow.nd rfl (.inr rfl) pe_int) <| pss_cons (ps_for PassesOwn.never rfl (pi_list (pv 0)) (pg_name (i := 2) scLow.nd rfl (.inl rfl)) (pss_one (ps_set (i := 1) scLow.nd rfl (.inr rfl) (pe_callBfun cr_gcd (by rfl) gg (pa_cons (pv 1) (pa_cons (pv 2) pa_nil))))))
        <| pss_one (ps_ret (pe_callTy call_tuple_of (by rfl) M.tuple (by decide +kernel) (pa_cons (pe_lc (own := [("number", 2)]) (g := gName 2) (tt := tYes) rfl scLow.nd (pi_list (pv 0)) (blkOk_by (N := nLow) (sc := defScope sLow) (by decide +kernel)) (fun _ _ _ _ _ => pg_name (i := 2) scLow.nd rfl (Or.inl rfl)) (fun _ _ _ _ _ => pts_nil)
          (fun _ _ _ _ _ => pe_op op_fdivW (pv 2) (pv 1))) pa_nil))), ?_⟩
      refine ⟨_, rfl, a, rfl, ⟨_, ha⟩, for_list (K := K) (a := a) (xs := ns.map V.int) (fun i σ H2 => ∃ c, σ = [some (.ref a), some (.int (gcdF (ns.take i) : Nat)), c] ∧ Same H H2) ⟨none, rfl, Same.refl H⟩ (fun i σ H2 _ ⟨_, _, s2⟩ => s2.seq ha) ?_ ?_⟩
      · rintro i y σ H2 hi ⟨c, rfl, s2⟩
        obtain ⟨rfl, l1⟩ := getD_at hi
        refine ⟨_, rfl, _, rfl, _, _, rfl, ?_⟩
        refine ⟨some (.int (ns.getD i 0)), ?_, s2⟩
        rw [gn i l1]
        rfl
      · rintro σ H2 ⟨c, rfl, s2⟩
        rw [List.length_map, List.take_length]
        refine ⟨_, rfl, a, rfl, ⟨_, s2.seq ha⟩, lcR (walk_list (xs := ns.map V.int)) (n1 := by rw [List.length_map]; exact hl) (fun H' s' => s'.seq (s2.seq ha)) (fun i y _ => y = .int (ns.getD i 0 / (gcdF ns : Int))) (fun _ _ _ _ _ e => e) ?_ ?_⟩
        · rintro D acc i x Ha Hb K2 hi s nD hD ⟨rfl, ex⟩ kk
          obtain ⟨rfl, l1⟩ := getD_at ex
          exact ⟨rfl, _, rfl, _, rfl, _, _, rfl, rfl, ⟨by omega, lg⟩, kk _ _ (Same.refl _) rfl⟩
        · rintro D Hb ys nw hlen he
          have ey : ys = (lowF ns).map V.int := by
            rw [list_of hlen he, List.length_map]
            unfold lowF
            apply List.ext_getElem
            · simp
            · intro i h1 h2
              simp only [List.length_map, List.length_range] at h1
              simp [List.getD_eq_getElem?_getD, List.getElem?_eq_getElem h1]
          refine ⟨D, _, rfl, .inl ⟨SqL.of nw.2.1, fun q1 nq1 => ?_⟩⟩
          exact k _ _ ((s2.trans nw.2.2).trans (same_new nq1)) (by rw [← ey]; exact SqT.of upd_same)
    · refine ⟨_, PSs.nox <| pss_cons (ps_set (i := 1) scLow.nd rfl (.inr rfl) pe_int) <| pss_cons (ps_for PassesOwn.never rfl (pi_tup (pv 0)) (pg_name (i := 2) scLow.nd rfl (.inl rfl)) (pss_one (ps_set (i := 1) scLow.nd rfl (.inr rfl) (pe_callBfun cr_gcd (by rfl) gg (pa_cons (pv 1) (pa_cons (pv 2) pa_nil))))))
        <| pss_one (ps_ret (pe_callTy call_tuple_of (by rfl) M.tuple (by decide +kernel) (pa_cons (pe_lc (own := [("number", 2)]) (g := gName 2) (tt := tYes) rfl scLow.nd (pi_tup (pv 0)) (blkOk_by (N := nLow) (sc := defScope sLow) (by decide +kernel)) (fun _ _ _ _ _ => pg_name (i := 2) scLow.nd rfl (Or.inl rfl)) (fun _ _ _ _ _ => pts_nil)
          (fun _ _ _ _ _ => pe_op op_fdivW (pv 2) (pv 1))) pa_nil))), ?_⟩
      refine ⟨_, rfl, a, rfl, ⟨_, ha⟩, for_it (walk_tup (K := K) (a := a) (xs := ns.map V.int)) (fun i σ H2 => ∃ c, σ = [some (.ref a), some (.int (gcdF (ns.take i) : Nat)), c] ∧ Same H H2) ⟨none, rfl, Same.refl H⟩ (fun i σ H2 _ ⟨_, _, s2⟩ => Same.seqT s2 ha) ?_ ?_⟩
      · rintro i y σ H2 _ _ ⟨c, rfl, s2⟩ ⟨rfl, hi⟩
        obtain ⟨rfl, l1⟩ := getD_at hi
        refine ⟨_, rfl, _, rfl, _, _, rfl, ?_⟩
        refine ⟨some (.int (ns.getD i 0)), ?_, s2⟩
        rw [gn i l1]
        rfl
      · rintro σ H2 ⟨c, rfl, s2⟩
        rw [List.length_map, List.take_length]
        refine ⟨_, rfl, a, rfl, ⟨_, Same.seqT s2 ha⟩, lcR (walk_tup (xs := ns.map V.int)) (n1 := by rw [List.length_map]; exact hl) (fun H' s' => Same.seqT s' (Same.seqT s2 ha)) (fun i y _ => y = .int (ns.getD i 0 / (gcdF ns : Int))) (fun _ _ _ _ _ e => e) ?_ ?_⟩
        · rintro D acc i x Ha Hb K2 hi s nD hD ⟨rfl, ex⟩ kk
          obtain ⟨rfl, l1⟩ := getD_at ex
          exact ⟨rfl, _, rfl, _, rfl, _, _, rfl, rfl, ⟨by omega, lg⟩, kk _ _ (Same.refl _) rfl⟩
        · rintro D Hb ys nw hlen he
          have ey : ys = (lowF ns).map V.int := by
            rw [list_of hlen he, List.length_map]
            unfold lowF
            apply List.ext_getElem
            · simp
            · intro i h1 h2
              simp only [List.length_map, List.length_range] at h1
              simp [List.getD_eq_getElem?_getD, List.getElem?_eq_getElem h1]
          refine ⟨D, _, rfl, .inl ⟨SqL.of nw.2.1, fun q1 nq1 => ?_⟩⟩
          exact k _ _ ((s2.trans nw.2.2).trans (same_new nq1)) (by rw [← ey]; exact SqT.of upd_same)
/-! ### a vector brought to a level -/
theorem dot_bd {f g : List Int} {m n : Nat} (hf : Bd m f) (hg : Bd n g) (hl : f.length = g.length) (h4 : g.length ≤ 4) : (dot f g).natAbs < 2 ^ (m + n + 3) := by
  have key : ∀ (k : Nat), k ≤ g.length → (((List.range k).map fun i => f.getD i 0 * g.getD i 0).sum).natAbs ≤ k * 2 ^ (m + n) := by
    intro k
    induction k with
    | zero => intro _; simp
    | succ k ih =>
      intro hk
      have h1 := ih (by omega)
      rw [List.range_succ, List.map_append, List.sum_append]
      have h2 : (f.getD k 0 * g.getD k 0).natAbs < 2 ^ (m + n) := wide_lt (hf _ (getD_mem (by omega))) (hg _ (getD_mem (by omega)))
      have h3 : ([k].map fun i => f.getD i 0 * g.getD i 0).sum = f.getD k 0 * g.getD k 0 := by simp
      rw [h3, Nat.succ_mul]
      have := Int.natAbs_add_le ((List.range k).map fun i => f.getD i 0 * g.getD i 0).sum (f.getD k 0 * g.getD k 0)
      omega
  have h := key g.length (Nat.le_refl _)
  have e : 2 ^ (m + n + 3) = 8 * 2 ^ (m + n) := by rw [Nat.pow_add, Nat.mul_comm]
  have p : 0 < 2 ^ (m + n) := Nat.two_pow_pos _
  have h5 : g.length * 2 ^ (m + n) ≤ 4 * 2 ^ (m + n) := Nat.mul_le_mul_right _ h4
  unfold dot
  omega
theorem comb_bd {hi va : Int} {a u : List Int} {m n : Nat} (h1 : hi.natAbs < 2 ^ m) (h2 : va.natAbs < 2 ^ m) (ha : Bd n a) (hu : Bd n u) (hl : a.length = u.length) : Bd (m + n + 1) (combF hi va a u) := by
  intro z hz
  obtain ⟨i, hi2, rfl⟩ := List.mem_map.mp hz
  have hi3 : i < a.length := List.mem_range.mp hi2
  have q1 := wide_lt h1 (ha _ (getD_mem hi3))
  have q2 := wide_lt h2 (hu _ (getD_mem (show i < u.length by omega)))
  have := Int.natAbs_sub_le (hi * a.getD i 0) (va * u.getD i 0)
  have e : 2 ^ (m + n + 1) = 2 * 2 ^ (m + n) := by rw [Nat.pow_succ, Nat.mul_comm]
  show (hi * a.getD i 0 - va * u.getD i 0).natAbs < _
  omega
def spLev (K : PySem.W.Frag) : Sp := fun vs H Q _ => ∃ (a u t : Addr) (ga gu gt : List Int), vs = [.ref a, .ref u, .ref t] ∧ SqT K H a (ga.map V.int) ∧ SqT K H u (gu.map V.int) ∧ SqT K H t (gt.map V.int) ∧ ga.length = gu.length ∧ gt.length = gu.length ∧ gu.length ≤ 4 ∧ Bd 4000 ga ∧ Bd 4000 gu ∧ Bd 400 gt ∧
  0 < gcdF (combF (dot gt gu) (dot gt ga) ga gu) ∧ ∀ b H', Same H H' → SqT K H' b ((levF ga gu gt).map V.int) → Q (.ref b) H'
abbrev nLev : List Str := ["arrow", "up", "test", "high", "value", "one", "other"]
theorem scLev : FnScope nLev ["arrow", "up", "test"] (defScope sLev) := ⟨rfl, rfl, rfl, by decide +kernel, rfl, by decide +kernel, by decide +kernel⟩
theorem ok_lev {fW fL : Addr} {dW dL : FuncData} (F : FnP K "_leveled" sLev f fd) (M : Mo mg) (gg : mg "gcd" = some (.builtin "math.gcd")) (FW : FnP K "weighed" sWei fW dW) (gW : mg "weighed" = some (.ref fW)) (FL : FnP K "lowest" sLow fL dL) (gL : mg "lowest" = some (.ref fL)) : FnOk P w K mg base CX0 2 f fd ["arrow", "up", "test"] (spLev K) := by
  have GW : FnOk P w K mg base CX0 1 fW dW ["form", "numbers"] (spWei K) := ok_wei FW M
  have bW : Binds K dW ["form", "numbers"] [] := FW.bindsN fun _ _ _ _ _ _ us hl => match us, hl with | [_, _], _ => rfl
  have GL : FnOk P w K mg base CX0 1 fL dL ["numbers"] (spLow K) := ok_low FL M gg
  have bL : Binds K dL ["numbers"] [] := FL.bindsN fun _ _ _ _ _ _ us hl => match us, hl with | [_], _ => rfl
  refine F.ok scLev (fun vs H Q E h => ?_) (fun cdv A outer s H vs Q E hr h => ?_)
  · obtain ⟨a, u, t, ga, gu, gt, rfl, _⟩ := h
    rfl
  · obtain ⟨a, u, t, ga, gu, gt, rfl, ha, hu, ht, l1, l2, l4, ba, bu, bt, g0, k⟩ := h
    have c1 : (dot gt gu).natAbs < 2 ^ 4403 := dot_bd bt bu l2 l4
    have c2 : (dot gt ga).natAbs < 2 ^ 4403 := dot_bd bt ba (by omega) (by omega)
    refine ⟨_, PSs.nox <| pss_cons (ps_set (i := 3) scLev.nd rfl (.inr rfl) (pe_call GW hr (by rfl) gW FW.kp bW .nil pass0 (pa_cons (pv 2) (pa_cons (pv 1) pa_nil))))
      <| pss_cons (ps_set (i := 4) scLev.nd rfl (.inr rfl) (pe_call GW hr (by rfl) gW FW.kp bW .nil pass0 (pa_cons (pv 2) (pa_cons (pv 0) pa_nil))))
      <| pss_one (ps_ret (pe_call GL hr (by rfl) gL FL.kp bL .nil pass0 (pa_cons (pe_lc (own := [("one", 5), ("other", 6)]) (g := gTup K 2 (gCons (gName 5) (gCons (gName 6) gNil))) (tt := tYes) rfl scLev.nd (pi_zipA (by rfl) M.zip (pa_cons (pv 0) (pa_cons (pv 1) pa_nil))) (blkOk_by (N := nLev) (sc := defScope sLev) (by decide +kernel))
        (fun _ _ _ _ _ => pg_tup (by rfl) (pgs_cons (pg_name (i := 5) scLev.nd rfl (.inl rfl)) (pgs_cons (pg_name (i := 6) scLev.nd rfl (.inl rfl)) pgs_nil)))
        (fun _ _ _ _ _ => pts_nil) (fun _ _ _ _ _ => pe_op op_sub (pe_op mulI (pv 3) (pv 5)) (pe_op mulI (pv 4) (pv 6)))) pa_nil))), ?_⟩
    refine ⟨_, rfl, _, rfl, t, u, gt, gu, 400, 4000, rfl, ht, hu, l2, by omega, bt, bu, by decide, by decide, fun H1 s1 => ?_⟩
    refine ⟨_, rfl, _, rfl, t, a, gt, ga, 400, 4000, rfl, Same.seqT s1 ht, Same.seqT s1 ha, by omega, by omega, bt, ba, by decide, by decide, fun H2 s2 => ?_⟩
    have s12 := s1.trans s2
    refine ⟨_, rfl, _, rfl, a, u, _, _, rfl, .inr ⟨Same.seqT s12 ha, Same.seqT s12 hu, lcR (walk_zipT (xs := ga.map V.int) (ys := gu.map V.int) (n := ga.length) (by rw [List.length_map, List.length_map, l1]; omega)) (n1 := by omega) (fun H' s' => ⟨Same.seqT s' (Same.seqT s12 ha), Same.seqT s' (Same.seqT s12 hu)⟩) (fun i y _ => y = .int (dot gt gu * ga.getD i 0 - dot gt ga * gu.getD i 0)) (fun _ _ _ _ _ e => e) ?_ ?_⟩⟩
    · rintro D acc i x Ha Hb K2 hi s nD hD ⟨T, y, z, rfl, nT, rfl, ey, ez⟩ kk
      obtain ⟨rfl, j1⟩ := getD_at ey
      obtain ⟨rfl, j2⟩ := getD_at ez
      refine ⟨T, _, rfl, SqT.of upd_same, rfl, _, _, rfl, _, _, rfl, rfl, rfl, ?_⟩
      refine ⟨_, rfl, _, rfl, _, _, rfl, rfl, mul_ok c1 (ba _ (getD_mem j1)) (by decide) (by decide), _, rfl, _, rfl, _, _, rfl, rfl, mul_ok c2 (bu _ (getD_mem j2)) (by decide) (by decide), _, _, rfl, rfl, kk _ _ (same_new nT) rfl⟩
    · rintro D Hb ys nw hlen he
      have ey : ys = (combF (dot gt gu) (dot gt ga) ga gu).map V.int := by
        unfold combF
        rw [List.map_map]
        exact list_of hlen he
      refine ⟨D, _, rfl, .inl (by rw [← ey]; exact SqL.of nw.2.1), ?_, g0, ?_, fun b H' s' hb => k b H' ((s12.trans nw.2.2).trans s') hb⟩
      · unfold combF
        rw [List.length_map, List.length_range]
        omega
      · exact Nat.lt_of_lt_of_le (gcd_small (comb_bd c1 c2 ba bu l1)) (Nat.pow_le_pow_right (by decide) (by decide))
end
end Pg
set_option Elab.async false
set_option linter.all false
set_option maxRecDepth 100000
set_option maxHeartbeats 4000000
namespace Rl
open PySem PySem.Spec PyProof.Rows L2 Gd
/-! comprehensions with a condition: which items are kept is told by b -/
def kept (b : Nat → Bool) (i : Nat) : List Nat := (List.range i).filter b
theorem kept_yes {b : Nat → Bool} {i : Nat} (h : b i = true) : kept b (i + 1) = kept b i ++ [i] := by
  unfold kept
  rw [List.range_succ, List.filter_append]
  simp [h]
theorem kept_no {b : Nat → Bool} {i : Nat} (h : b i = false) : kept b (i + 1) = kept b i := by
  unfold kept
  rw [List.range_succ, List.filter_append]
  simp [h]
theorem kept_le (b : Nat → Bool) (i : Nat) : (kept b i).length ≤ i := by
  have := List.length_filter_le b (List.range i)
  rw [List.length_range] at this
  exact this
section
variable {J : It} {n : Nat} {G : Hp → Prop} {Y : Nat → Hp → V → Hp → Prop}
theorem small5 {n : Nat} (h : n ≤ 100000) : n < sizeLine := Nat.lt_of_le_of_lt h (by decide)
theorem lcW (w : Walk J n G Y) {g : TG} {te : TE} {vs : List Nat} {σ : L2.St} {H1 : Hp} {Q : Addr → Hp → Prop} (n1 : n ≤ 100000) (hG : ∀ H, Same H1 H → G H) (E : Nat → V → Hp → Prop) (hE : ∀ i y H H', Same H H' → E i y H → E i y H')
    (turn : ∀ (D : Addr) (acc : List V) (i : Nat) (x : V) (H H' : Hp) (K : V → Hp → Prop), i < n → Same H1 H → H1 D = none → H D = some (.lst acc) → Y i H x H' → (∀ y H4, Same H H4 → E i y (delH H4 D) → K y H4) → g x (wipe σ vs) H' fun σ2 H2 => wipe σ2 vs = wipe σ vs ∧ te σ2 H2 K)
    (done : ∀ (D : Addr) (H' : Hp) (ys : List V), New H1 D (.lst ys) H' → ys.length = n → (∀ i y, ys[i]? = some y → E i y (delH H' D)) → Q D H') :
    ∀ D, H1 D = none → ∃ W : Nat → Nat → Hp → Prop, (∃ m, W 0 m (upd H1 D (.lst []))) ∧ ∀ i m H, W i m H →
      (J.stop i H ∧ Q D H) ∨ (J.go i H ∧ ∃ Nx : Hp → Prop, (∀ H', Nx H' → ∃ m', m' < m ∧ W (i + 1) m' H') ∧ ∀ x H', J.yld i H x H' → g x (wipe σ vs) H' fun σ2 H2 => wipe σ2 vs = wipe σ vs ∧ tYes σ2 H2 fun b H3 =>
        if b = true then te σ2 H3 fun y H4 => ∃ acc, H4 D = some (.lst acc) ∧ acc.length < sizeLine ∧ Nx (upd H4 D (.lst (acc ++ [y]))) else Nx H3) := by
  intro D hD
  refine lc_it w (Qd := fun H => Q D H) (fun i H => Same H1 H ∧ ∃ acc, H D = some (.lst acc) ∧ acc.length = i ∧ ∀ j y, acc[j]? = some y → E j y (delH H D)) ⟨same_new hD, [], upd_same, rfl, fun j y e => by simp at e⟩ (fun i H _ ⟨s, _⟩ => hG H s) ?_ ?_
  · rintro i x H H' hi ⟨s, acc, ha, hl, he⟩ y
    refine turn D acc i x H H' _ hi s hD ha y fun v H4 s4 e4 => ?_
    have hD4 := s4 _ _ ha
    refine ⟨acc, hD4, small5 (by omega), fun b u e => ?_, acc ++ [v], upd_same, by rw [List.length_append, hl]; rfl, fun j z ej => ?_⟩
    · rw [upd_ne (ne_of_none e hD)]
      exact s4 _ _ (s b u e)
    · have up : ∀ {Ha : Hp}, Same Ha H4 → Same (delH Ha D) (delH (upd H4 D (.lst (acc ++ [v]))) D) := fun {Ha} sa b u e => by
        by_cases q : b = D
        · rw [q, delH_same] at e
          cases e
        · rw [delH_ne q] at e
          rw [delH_ne q, upd_ne q]
          exact sa b u e
      by_cases q : j < acc.length
      · rw [List.getElem?_append_left q] at ej
        exact hE _ _ _ _ (up s4) (he j z ej)
      · rw [List.getElem?_append_right (by omega)] at ej
        have e0 : j - acc.length = 0 := by
          cases r : j - acc.length with
          | zero => rfl
          | succ m =>
            rw [r] at ej
            simp at ej
        rw [e0] at ej
        have ez : v = z := by simpa using ej
        subst ez
        have ej2 : j = i := by omega
        subst ej2
        exact hE _ _ _ _ (up (Same.refl _)) e4
  · rintro H ⟨s, acc, ha, hl, he⟩
    exact done D H acc ⟨hD, ha, s⟩ hl he
theorem lcF (w : Walk J n G Y) {g : TG} {tt : TT} {te : TE} {vs : List Nat} {σ : L2.St} {H1 : Hp} {Q : Addr → Hp → Prop} (n1 : n ≤ 100000) (hG : ∀ H, Same H1 H → G H) (b : Nat → Bool) (E : Nat → V → Hp → Prop) (hE : ∀ i y H H', Same H H' → E i y H → E i y H')
    (turn : ∀ (D : Addr) (acc : List V) (i : Nat) (x : V) (H H' : Hp) (K : V → Hp → Prop) (S : Hp → Prop), i < n → Same H1 H → H1 D = none → H D = some (.lst acc) → Y i H x H' → (∀ y H4, b i = true → Same H H4 → E i y (delH H4 D) → K y H4) → (∀ H4, b i = false → Same H H4 → S H4) →
      g x (wipe σ vs) H' fun σ2 H2 => wipe σ2 vs = wipe σ vs ∧ tt σ2 H2 fun bb H3 => if bb = true then te σ2 H3 K else S H3)
    (done : ∀ (D : Addr) (H' : Hp) (ys : List V), New H1 D (.lst ys) H' → ys.length = (kept b n).length → (∀ (j : Nat) (y : V), ys[j]? = some y → ∃ k, (kept b n)[j]? = some k ∧ E k y (delH H' D)) → Q D H') :
    ∀ D, H1 D = none → ∃ W : Nat → Nat → Hp → Prop, (∃ m, W 0 m (upd H1 D (.lst []))) ∧ ∀ i m H, W i m H →
      (J.stop i H ∧ Q D H) ∨ (J.go i H ∧ ∃ Nx : Hp → Prop, (∀ H', Nx H' → ∃ m', m' < m ∧ W (i + 1) m' H') ∧ ∀ x H', J.yld i H x H' → g x (wipe σ vs) H' fun σ2 H2 => wipe σ2 vs = wipe σ vs ∧ tt σ2 H2 fun b H3 =>
        if b = true then te σ2 H3 fun y H4 => ∃ acc, H4 D = some (.lst acc) ∧ acc.length < sizeLine ∧ Nx (upd H4 D (.lst (acc ++ [y]))) else Nx H3) := by
  intro D hD
  refine lc_it w (Qd := fun H => Q D H) (fun i H => Same H1 H ∧ ∃ acc, H D = some (.lst acc) ∧ acc.length = (kept b i).length ∧ ∀ (j : Nat) (y : V), acc[j]? = some y → ∃ k, (kept b i)[j]? = some k ∧ E k y (delH H D)) ⟨same_new hD, [], upd_same, rfl, fun j y e => by simp at e⟩ (fun i H _ ⟨s, _⟩ => hG H s) ?_ ?_
  · rintro i x H H' hi ⟨s, acc, ha, hl, he⟩ y
    have lk := kept_le b i
    refine turn D acc i x H H' _ _ hi s hD ha y (fun v H4 bi s4 e4 => ?_) (fun H4 bi s4 => ?_)
    · have hD4 := s4 _ _ ha
      refine ⟨acc, hD4, small5 (by omega), fun b u e => ?_, acc ++ [v], upd_same, ?_, fun j z ej => ?_⟩
      · rw [upd_ne (ne_of_none e hD)]
        exact s4 _ _ (s b u e)
      · rw [kept_yes bi, List.length_append, List.length_append, hl]
        rfl
      · have up : ∀ {Ha : Hp}, Same Ha H4 → Same (delH Ha D) (delH (upd H4 D (.lst (acc ++ [v]))) D) := fun {Ha} sa b u e => by
          by_cases q : b = D
          · rw [q, delH_same] at e
            cases e
          · rw [delH_ne q] at e
            rw [delH_ne q, upd_ne q]
            exact sa b u e
        rw [kept_yes bi]
        by_cases q : j < acc.length
        · rw [List.getElem?_append_left q] at ej
          obtain ⟨k, ek, hk⟩ := he j z ej
          exact ⟨k, by rw [List.getElem?_append_left (by omega)]; exact ek, hE _ _ _ _ (up s4) hk⟩
        · rw [List.getElem?_append_right (by omega)] at ej
          have e0 : j - acc.length = 0 := by
            cases r : j - acc.length with
            | zero => rfl
            | succ m =>
              rw [r] at ej
              simp at ej
          rw [e0] at ej
          have ez : v = z := by simpa using ej
          subst ez
          refine ⟨i, ?_, hE _ _ _ _ (up (Same.refl _)) e4⟩
          rw [List.getElem?_append_right (by omega), show j - (kept b i).length = 0 by omega]
          rfl
    · refine ⟨s.trans s4, acc, s4 _ _ ha, by rw [kept_no bi]; exact hl, fun j z ej => ?_⟩
      obtain ⟨k, ek, hk⟩ := he j z ej
      refine ⟨k, by rw [kept_no bi]; exact ek, hE _ _ _ _ ?_ hk⟩
      intro b u e
      by_cases q : b = D
      · rw [q, delH_same] at e
        cases e
      · rw [delH_ne q] at e
        rw [delH_ne q]
        exact s4 b u e
  · rintro H ⟨s, acc, ha, hl, he⟩
    exact done D H acc ⟨hD, ha, s⟩ hl he
end
/-- the items kept, one by one -/
theorem filter_kept {α : Type} (d : α) (p : α → Bool) : ∀ (gs : List α), (kept (fun k => p (gs.getD k d)) gs.length).map (fun k => gs.getD k d) = gs.filter p := by
  intro gs
  have key : ∀ n, n ≤ gs.length → (kept (fun k => p (gs.getD k d)) n).map (fun k => gs.getD k d) = (gs.take n).filter p := by
    intro n
    induction n with
    | zero => intro _; rfl
    | succ n ih =>
      intro hn
      have e : gs.getD n d = gs[n] := by rw [List.getD_eq_getElem?_getD, List.getElem?_eq_getElem (show n < gs.length by omega)]; rfl
      rw [List.take_add_one, List.getElem?_eq_getElem (show n < gs.length by omega), List.filter_append, ← ih (by omega)]
      cases q : p gs[n] with
      | true =>
        rw [kept_yes (by rw [e, q]), List.map_append]
        show _ ++ [gs.getD n d] = _
        rw [e]
        simp [q]
      | false =>
        rw [kept_no (by rw [e, q])]
        simp [q]
  rw [key gs.length (Nat.le_refl _), List.take_length]
end Rl
set_option Elab.async false
set_option linter.all false
set_option maxRecDepth 100000
set_option maxHeartbeats 8000000
set_option exponentiation.threshold 10000
/-! what is found, in plain lists -/
namespace Dd
/-- two arrows beside one another: just these two lie where both lie -/
def commF (a b : List Int) (done : List (List Int)) : List (List Int) := done.filter fun t => decide (dot t a = 0) && decide (dot t b = 0)
def betwF (cm found : List (List Int)) : List (List Int) := found.filter fun c => cm.all fun t => decide (dot t c = 0)
def nbF (a b : List Int) (found done : List (List Int)) : Bool := decide ((betwF (commF a b done) found).length = 2)
/-- vectors of one length -/
def Ln (n : Nat) (gs : List (List Int)) : Prop := ∀ g ∈ gs, g.length = n
def Bds (b : Nat) (gs : List (List Int)) : Prop := ∀ g ∈ gs, Bd b g
end Dd
namespace Pg
open PySem PySem.Spec PyProof.Rows L2 Gd Rl Te Vd Fx RZ Dd
abbrev sNb : Stmt := top 24
/-- references to vectors -/
def VA (K : PySem.W.Frag) (H : Hp) (xs : List V) (gs : List (List Int)) : Prop := xs.length = gs.length ∧ ∀ (i : Nat) (x : V), xs[i]? = some x → ∃ a, x = .ref a ∧ SqT K H a ((gs.getD i []).map V.int)
theorem VA.same {K : PySem.W.Frag} {H H' : Hp} {xs : List V} {gs : List (List Int)} (s : Same H H') (h : VA K H xs gs) : VA K H' xs gs := ⟨h.1, fun i x e => by
  obtain ⟨a, rfl, h2⟩ := h.2 i x e
  exact ⟨a, rfl, Same.seqT s h2⟩⟩
theorem gD_mem {gs : List (List Int)} {i : Nat} (h : i < gs.length) : gs.getD i [] ∈ gs := by
  rw [List.getD_eq_getElem?_getD, List.getElem?_eq_getElem h]
  exact List.getElem_mem h
theorem VA.at {K : PySem.W.Frag} {H : Hp} {xs : List V} {gs : List (List Int)} (h : VA K H xs gs) {i : Nat} {x : V} (e : xs[i]? = some x) : ∃ a, x = .ref a ∧ SqT K H a ((gs.getD i []).map V.int) ∧ gs.getD i [] ∈ gs := by
  obtain ⟨a, rfl, h2⟩ := h.2 i x e
  have := (List.getElem?_eq_some_iff.mp e).1
  exact ⟨a, rfl, h2, gD_mem (by rw [← h.1]; exact this)⟩
/-- what a comprehension with a condition keeps of vectors -/
theorem VA.kept {K : PySem.W.Frag} {H : Hp} {gs : List (List Int)} {b : Nat → Bool} {ys : List V} {E : Nat → V → Prop} {e : Nat → List Int} (hl : ys.length = (kept b gs.length).length) (h : ∀ (j : Nat) (y : V), ys[j]? = some y → ∃ k, (kept b gs.length)[j]? = some k ∧ ∃ a, y = .ref a ∧ SqT K H a ((e k).map V.int)) : VA K H ys ((Rl.kept b gs.length).map e) := by
  refine ⟨by rw [List.length_map]; exact hl, fun j y ej => ?_⟩
  obtain ⟨k, ek, a, rfl, ha⟩ := h j y ej
  refine ⟨a, rfl, ?_⟩
  rw [List.getD_eq_getElem?_getD, List.getElem?_map, ek]
  exact ha
/-! the scope within a comprehension, as it stands in its def -/
def lcSc : Expr → Scope
  | .ListComp _ _ sc _ => sc
  | _ => defScope (.Pass ⟨0, 0, 0, 0⟩)
def asgV : Stmt → Expr
  | .Assign _ e _ => e
  | _ => .Name "" ⟨0, 0, 0, 0⟩
def rlSc (sc out : Scope) : Scope := { sc with names := sc.names.map fun (n, k) => if (k == .free && out.kind == .function && out.names.lookup n == some .cell) then (n, .cell) else (n, k) }
theorem same_del {H H' : Hp} {D : Addr} (s : Same H H') (hD : H D = none) : Same H (delH H' D) := fun b o e => by
  rw [delH_ne (ne_of_none e hD)]
  exact s b o e
theorem del_same {H : Hp} {D : Addr} : Same (delH H D) H := fun b o e => by
  by_cases q : b = D
  · rw [q, delH_same] at e
    cases e
  · rw [delH_ne q] at e
    exact e
theorem gD_all (l : List (List Int)) (p : List Int → Bool) : ((List.range l.length).map fun i => p (l.getD i [])).all id = l.all p := by
  have e : ((List.range l.length).map fun i => p (l.getD i [])) = l.map p := by
    apply List.ext_getElem
    · simp
    · intro i h1 h2
      simp only [List.length_map, List.length_range] at h1
      simp [List.getD_eq_getElem?_getD, List.getElem?_eq_getElem h1]
  rw [e, List.all_map]
  rfl
section
variable {P : Program} {w : World} {K : PySem.W.Frag} {mg : Str → Option Value} {base : Heap} {f : Addr} {fd : FuncData}
def spNb (K : PySem.W.Frag) : Sp := fun vs H Q _ => ∃ (a b l d : Addr) (ga gb : List Int) (xs ys : List V) (fs ds : List (List Int)) (n : Nat), vs = [.ref a, .ref b, .ref l, .ref d] ∧ SqT K H a (ga.map V.int) ∧ SqT K H b (gb.map V.int) ∧ SqL K H l xs ∧ VA K H xs fs ∧ SqL K H d ys ∧ VA K H ys ds ∧
  n ≤ 4 ∧ ga.length = n ∧ gb.length = n ∧ Ln n fs ∧ Ln n ds ∧ Bd 4000 ga ∧ Bd 4000 gb ∧ Bds 4000 fs ∧ Bds 400 ds ∧ fs.length ≤ 100000 ∧ ds.length ≤ 100000 ∧ ∀ H', Same H H' → Q (.bl (nbF ga gb fs ds)) H'
abbrev nNb : List Str := ["one", "other", "found", "done", "common", "between", "test", "third"]
theorem scNb : FnScope nNb ["one", "other", "found", "done"] (defScope sNb) := ⟨rfl, rfl, rfl, by decide +kernel, rfl, by decide +kernel, by decide +kernel⟩
theorem eq0 (z : Int) : decide (V.int z = V.int 0) = decide (z = 0) := decide_eq_decide.mpr ⟨fun e => V.int.inj e, fun e => by rw [e]⟩
theorem ok_nb {fW : Addr} {dW : FuncData} (F : FnP K "_are_neighbours" sNb f fd) (M : Mo mg) (FW : FnP K "weighed" sWei fW dW) (gW : mg "weighed" = some (.ref fW)) : FnOk P w K mg base CX0 2 f fd ["one", "other", "found", "done"] (spNb K) := by
  have GW : FnOk P w K mg base CX0 1 fW dW ["form", "numbers"] (spWei K) := ok_wei FW M
  have bW : Binds K dW ["form", "numbers"] [] := FW.bindsN fun _ _ _ _ _ _ us hl => match us, hl with | [_, _], _ => rfl
  refine F.ok scNb (fun vs H Q E h => ?_) (fun cdv A outer s H vs Q E hr h => ?_)
  · obtain ⟨a, b, l, d, ga, gb, xs, ys, fs, ds, n, rfl, _⟩ := h
    rfl
  · obtain ⟨a, b, l, d, ga, gb, xs, ys, fs, ds, n, rfl, ha, hb, hl, hxs, hd, hys, n4, la, lb, lf, ld, ba, bb, bf, bd, fl, dl, k⟩ := h
    refine ⟨_, PSs.nox <| pss_cons (ps_set (i := 4) scNb.nd rfl (.inr rfl) (pe_lc (own := [("test", 6)]) (g := gName 6) rfl scNb.nd (pi_list (pv 3)) (blkOk_by (N := nNb) (sc := defScope sNb) (by decide +kernel)) (fun _ _ _ _ _ => pg_name (i := 6) scNb.nd rfl (Or.inl rfl))
          (fun _ _ _ _ _ => pts_one (PW.pt (pw_and (pt_cmpR op_eq (pe_call GW hr (by rfl) gW FW.kp bW .nil pass0 (pa_cons (pv 6) (pa_cons (pv 0) pa_nil))) pe_int (nomark _)) (pw_and1 (pt_cmpR op_eq (pe_call GW hr (by rfl) gW FW.kp bW .nil pass0 (pa_cons (pv 6) (pa_cons (pv 1) pa_nil))) pe_int (nomark _))))))
          (fun _ _ _ _ _ => pv 6)))
      <| pss_cons (ps_setLc (i := 5) (own := [("third", 7)]) (g := gName 7) rfl scNb.nd rfl rfl (sw_true rfl rfl rfl (by decide +kernel)) (pi_list (pv 2)) (blkOk_by (N := nNb) (sc := defScope sNb) (by decide +kernel)) (fun _ _ _ _ _ => pg_name (i := 7) scNb.nd rfl (Or.inr rfl))
          (fun _ _ _ _ _ => pts_one (pt_val (pe_callB (id := "all") (r := rAll K) (cr_all rfl) (by rfl) M.all (by decide +kernel) (pa_cons (pe_lc (own := [("test", 6)]) (g := gName 6) (tt := tYes) (wi := iList K (tVar 4)) rfl scNb.nd (pi_list (pv 4)) (blkOk_by (N := nNb) (sc := rlSc (lcSc (asgV ((defBody sNb).getD 1 (.Pass ⟨0, 0, 0, 0⟩)))) (defScope sNb)) (by decide +kernel)) (fun _ _ _ _ _ => pg_name (i := 6) scNb.nd rfl (Or.inl rfl)) (fun _ _ _ _ _ => pts_nil)
            (fun _ _ _ _ _ => pe_cmpR op_eq (pe_call GW hr (by rfl) gW FW.kp bW .nil pass0 (pa_cons (pv 6) (pa_cons (pv 7) pa_nil))) pe_int (nomark _))) pa_nil))))
          (fun _ _ _ _ _ => pv 7))
      <| pss_one (ps_ret (pe_cmpR op_eq (pe_callB call_len (by rfl) M.len PySem.boot_len (pa_cons (pv 5) pa_nil)) pe_int (nomark _))), ?_⟩
    refine ⟨_, rfl, d, rfl, ⟨_, hd⟩, lcF (walk_list (xs := ys)) (n1 := by rw [hys.1]; exact dl) (fun H' s' => s'.seq hd) (fun i => decide (dot (ds.getD i []) ga = 0) && decide (dot (ds.getD i []) gb = 0)) (fun i y H => ∃ a, y = .ref a ∧ SqT K H a ((ds.getD i []).map V.int)) (fun i y H H' s' ⟨a, e, h2⟩ => ⟨a, e, Same.seqT s' h2⟩) ?_ ?_⟩
    · rintro D acc i x Ha Hb K2 S hi s nD hD ⟨rfl, ex⟩ kk ks
      obtain ⟨t, rfl, ht, hm⟩ := hys.at ex
      have ltt := ld _ hm
      refine ⟨rfl, _, rfl, _, rfl, t, a, _, ga, 400, 4000, rfl, Same.seqT s ht, Same.seqT s ha, by omega, by omega, bd _ hm, ba, by decide, by decide, fun H1 s1 => ⟨rfl, _, rfl, ?_⟩⟩
      by_cases h1 : dot (ds.getD i []) ga = 0
      · refine iteDY (c := V.int (dot (ds.getD i []) ga) = V.int 0) (by rw [h1]) ?_
        have s01 := s.trans s1
        refine ⟨_, rfl, _, rfl, t, b, _, gb, 400, 4000, rfl, Same.seqT s01 ht, Same.seqT s01 hb, by omega, by omega, bd _ hm, bb, by decide, by decide, fun H2 s2 => ⟨rfl, _, rfl, ?_⟩⟩
        by_cases h2 : dot (ds.getD i []) gb = 0
        · refine iteDY (c := V.int (dot (ds.getD i []) gb) = V.int 0) (by rw [h2]) ?_
          exact ⟨_, rfl, kk _ _ (by rw [h1, h2]; rfl) (s1.trans s2) ⟨t, rfl, Same.seqT (same_del (s01.trans s2) nD) ht⟩⟩
        · refine iteDN (c := V.int (dot (ds.getD i []) gb) = V.int 0) (fun e => h2 (V.int.inj e)) ?_
          exact ks _ (by rw [decide_eq_false h2, Bool.and_false]) (s1.trans s2)
      · refine iteDN (c := V.int (dot (ds.getD i []) ga) = V.int 0) (fun e => h1 (V.int.inj e)) ?_
        exact ks _ (by rw [decide_eq_false h1, Bool.false_and]) s1
    · rintro D Hb cs nw hlen he
      rw [hys.1] at hlen he
      have hcs : VA K Hb cs (commF ga gb ds) := by
        have h2 := VA.kept (K := K) (H := Hb) (gs := ds) (b := fun i => decide (dot (ds.getD i []) ga = 0) && decide (dot (ds.getD i []) gb = 0)) (ys := cs) (e := fun k => ds.getD k []) (E := fun _ _ => True) hlen fun j y ej => by
          obtain ⟨k, ek, a, e, h3⟩ := he j y ej
          exact ⟨k, ek, a, e, Same.seqT del_same h3⟩
        rw [filter_kept [] (fun t => decide (dot t ga = 0) && decide (dot t gb = 0)) ds] at h2
        exact h2
      have hcd : ∀ g ∈ commF ga gb ds, g ∈ ds := fun g hg => (List.mem_filter.mp hg).1
      have hcl : (commF ga gb ds).length ≤ 100000 := Nat.le_trans (List.length_filter_le _ _) dl
      have sb := nw.2.2
      refine ⟨_, rfl, l, rfl, ⟨_, sb.seq hl⟩, lcF (walk_list (xs := xs)) (n1 := by rw [hxs.1]; exact fl) (fun H' s' => s'.seq (sb.seq hl)) (fun i => (commF ga gb ds).all fun t => decide (dot t (fs.getD i []) = 0)) (fun i y H => ∃ a, y = .ref a ∧ SqT K H a ((fs.getD i []).map V.int)) (fun i y H H' s' ⟨a, e, h2⟩ => ⟨a, e, Same.seqT s' h2⟩) ?_ ?_⟩
      · rintro D2 acc i x Ha Hc K2 S hi s nD hD ⟨rfl, ex⟩ kk ks
        obtain ⟨t, rfl, ht, hm⟩ := (hxs.same sb).at ex
        have ltt := lf _ hm
        refine ⟨rfl, _, rfl, D, rfl, ⟨_, SqL.of (s _ _ nw.2.1)⟩, lcW (walk_list (xs := cs)) (n1 := by rw [hcs.1]; exact hcl) (fun H' s' => SqL.of (s' _ _ (s _ _ nw.2.1))) (fun j y _ => y = .bl (decide (dot ((commF ga gb ds).getD j []) (fs.getD i []) = 0))) (fun _ _ _ _ _ e => e) ?_ ?_⟩
        · rintro D3 acc3 j x3 Ha3 Hb3 K3 hj s3 nD3 hD3 ⟨rfl, ex3⟩ kk3
          obtain ⟨u, rfl, hu, hmu⟩ := (hcs.same s).at ex3
          have lu := ld _ (hcd _ hmu)
          refine ⟨rfl, _, rfl, _, rfl, u, t, _, _, 400, 4000, rfl, Same.seqT s3 hu, Same.seqT (s.trans s3) ht, by omega, by omega, bd _ (hcd _ hmu), bf _ hm, by decide, by decide, fun H1 s1 => ⟨rfl, kk3 _ _ s1 ?_⟩⟩
          rw [eq0]
        · rintro D3 Hd zs nw3 hlen3 he3
          have ez : zs = ((List.range (commF ga gb ds).length).map fun j => decide (dot ((commF ga gb ds).getD j []) (fs.getD i []) = 0)).map V.bl := by
            rw [List.map_map]
            exact list_of (by rw [hlen3, hcs.1]) he3
          refine ⟨D3, _, rfl, by rw [← ez]; exact SqL.of nw3.2.1, _, rfl, ?_⟩
          rw [gD_all (commF ga gb ds) (fun t => decide (dot t (fs.getD i []) = 0))]
          cases hq : (commF ga gb ds).all fun t => decide (dot t (fs.getD i []) = 0) with
          | true => exact iteT ⟨_, rfl, kk _ _ hq nw3.2.2 ⟨t, rfl, Same.seqT (same_del (s.trans nw3.2.2) nD) ht⟩⟩
          | false => exact iteF (ks _ hq nw3.2.2)
      · rintro D2 Hc bs nw2 hlen2 he2
        rw [hxs.1] at hlen2
        refine ⟨_, rfl, _, bs.length, rfl, .inl ⟨_, SqL.of nw2.2.1, rfl⟩, rfl, ?_⟩
        have e := k Hc (sb.trans nw2.2.2)
        have el : bs.length = (betwF (commF ga gb ds) fs).length := by
          rw [hlen2]
          unfold betwF
          rw [← filter_kept [] (fun c => (commF ga gb ds).all fun t => decide (dot t c = 0)) fs, List.length_map]
        rw [el]
        unfold nbF at e
        rw [show decide (V.int (((betwF (commF ga gb ds) fs).length : Nat) : Int) = V.int 2) = decide ((betwF (commF ga gb ds) fs).length = 2) from decide_eq_decide.mpr ⟨fun q => by have := V.int.inj q; omega, fun q => by rw [q]; rfl⟩]
        exact e
end
end Pg
set_option Elab.async false
set_option linter.all false
set_option maxRecDepth 100000
set_option maxHeartbeats 8000000
set_option exponentiation.threshold 10000
namespace Dd
open Rl
def condF (fs ds : List (List Int)) (t : List Int) (i j : Nat) : Bool := decide (0 < dot t (fs.getD i [])) && (decide (dot t (fs.getD j []) < 0) && nbF (fs.getD i []) (fs.getD j []) fs ds)
def rowF (fs ds : List (List Int)) (t : List Int) (i n : Nat) : List (List Int) := (kept (condF fs ds t i) n).map fun j => levF (fs.getD j []) (fs.getD i []) t
def newF (fs ds : List (List Int)) (t : List Int) (n : Nat) : List (List Int) := (List.range n).flatMap fun i => rowF fs ds t i fs.length
def cutA (fs ds : List (List Int)) (t : List Int) : List (List Int) := fs.filter (fun a => decide (0 ≤ dot t a)) ++ newF fs ds t fs.length
theorem new_succ (fs ds : List (List Int)) (t : List Int) (n : Nat) : newF fs ds t (n + 1) = newF fs ds t n ++ rowF fs ds t n fs.length := by
  unfold newF
  rw [List.range_succ, List.flatMap_append]
  simp
theorem row_le (fs ds : List (List Int)) (t : List Int) (i n : Nat) : (rowF fs ds t i n).length ≤ n := by
  unfold rowF
  rw [List.length_map]
  exact kept_le _ _
theorem new_le (fs ds : List (List Int)) (t : List Int) : ∀ n, (newF fs ds t n).length ≤ n * fs.length
  | 0 => by simp [newF]
  | n + 1 => by
    rw [new_succ, List.length_append, Nat.succ_mul]
    have := new_le fs ds t n
    have := row_le fs ds t n fs.length
    omega
/-- no pair of arrows falls together -/
def Apart (fs ds : List (List Int)) (t : List Int) : Prop := ∀ i j, i < fs.length → j < fs.length → 0 < dot t (fs.getD i []) → dot t (fs.getD j []) < 0 → 0 < gcdF (combF (dot t (fs.getD i [])) (dot t (fs.getD j [])) (fs.getD j []) (fs.getD i []))
end Dd
namespace Pg
open PySem PySem.Spec PyProof.Rows L2 Gd Rl Te Vd Fx RZ Dd
abbrev sCa : Stmt := top 23
theorem VA.push {K : PySem.W.Frag} {H : Hp} {xs : List V} {gs : List (List Int)} {a : Addr} {g : List Int} (h : VA K H xs gs) (ha : SqT K H a (g.map V.int)) : VA K H (xs ++ [.ref a]) (gs ++ [g]) := by
  refine ⟨by rw [List.length_append, List.length_append, h.1]; rfl, fun i x e => ?_⟩
  by_cases q : i < xs.length
  · rw [List.getElem?_append_left q] at e
    obtain ⟨b, rfl, hb⟩ := h.2 i x e
    refine ⟨b, rfl, ?_⟩
    rw [List.getD_eq_getElem?_getD, List.getElem?_append_left (by rw [← h.1]; exact q), ← List.getD_eq_getElem?_getD]
    exact hb
  · rw [List.getElem?_append_right (by omega)] at e
    have e0 : i - xs.length = 0 := by
      cases r : i - xs.length with
      | zero => rfl
      | succ m =>
        rw [r] at e
        simp at e
    rw [e0] at e
    have ez : V.ref a = x := by simpa using e
    subst ez
    refine ⟨a, rfl, ?_⟩
    rw [List.getD_eq_getElem?_getD, List.getElem?_append_right (by rw [← h.1]; omega), ← h.1, e0]
    exact ha
/-! what is no list stays -/
def Nl (H H' : Hp) : Prop := ∀ b o, H b = some o → (∀ xs, o ≠ .lst xs) → H' b = some o
theorem nl_same {H H' : Hp} (s : Same H H') : Nl H H' := fun b o e _ => s b o e
theorem nl_upd {H : Hp} {l : Addr} {X Y : List V} (h : H l = some (.lst X)) : Nl H (upd H l (.lst Y)) := fun b o e n => by
  rw [upd_ne (fun q => by rw [q, h] at e; cases e; exact n _ rfl)]
  exact e
theorem seqT_nl {K : PySem.W.Frag} {H H' : Hp} {a : Addr} {xs : List V} (s : Nl H H') (h : SqT K H a xs) : SqT K H' a xs := by
  rcases h with (h | ⟨o, h⟩) | h
  · exact .inl (.inl (s _ _ h fun _ q => nomatch q))
  · exact .inl (.inr ⟨o, s _ _ h fun _ q => nomatch q⟩)
  · exact .inr h
theorem VA.nl {K : PySem.W.Frag} {H H' : Hp} {xs : List V} {gs : List (List Int)} (s : Nl H H') (h : VA K H xs gs) : VA K H' xs gs := ⟨h.1, fun i x e => by
  obtain ⟨a, rfl, h2⟩ := h.2 i x e
  exact ⟨a, rfl, seqT_nl s h2⟩⟩
section
variable {P : Program} {w : World} {K : PySem.W.Frag} {mg : Str → Option Value} {base : Heap} {f : Addr} {fd : FuncData}
def spCa (K : PySem.W.Frag) : Sp := fun vs H Q _ => ∃ (l d t : Addr) (gt : List Int) (xs ys : List V) (fs ds : List (List Int)) (n : Nat), vs = [.ref l, .ref d, .ref t] ∧ SqT K H t (gt.map V.int) ∧ SqL K H l xs ∧ VA K H xs fs ∧ SqL K H d ys ∧ VA K H ys ds ∧
  n ≤ 4 ∧ gt.length = n ∧ Ln n fs ∧ Ln n ds ∧ Bd 400 gt ∧ Bds 4000 fs ∧ Bds 400 ds ∧ fs.length ≤ 2000 ∧ ds.length ≤ 1000 ∧ Apart fs ds gt ∧ ∀ r zs H', Same H H' → H' r = some (.lst zs) → H r = none → VA K H' zs (cutA fs ds gt) → Q (.ref r) H'
abbrev nCa : List Str := ["found", "done", "test", "left", "up", "down", "arrow"]
theorem scCa : FnScope nCa ["found", "done", "test"] (defScope sCa) := ⟨rfl, rfl, rfl, by decide +kernel, rfl, by decide +kernel, by decide +kernel⟩
theorem ok_ca {fW fL fV fN : Addr} {dW dL dV dN : FuncData} (F : FnP K "_cut_arrows" sCa f fd) (M : Mo mg) (gg : mg "gcd" = some (.builtin "math.gcd")) (FW : FnP K "weighed" sWei fW dW) (gW : mg "weighed" = some (.ref fW)) (FL : FnP K "lowest" sLow fL dL) (gL : mg "lowest" = some (.ref fL))
    (FV : FnP K "_leveled" sLev fV dV) (gV : mg "_leveled" = some (.ref fV)) (FN : FnP K "_are_neighbours" sNb fN dN) (gN : mg "_are_neighbours" = some (.ref fN)) : FnOk P w K mg base CX0 3 f fd ["found", "done", "test"] (spCa K) := by
  have GW : FnOk P w K mg base CX0 1 fW dW ["form", "numbers"] (spWei K) := ok_wei FW M
  have bW : Binds K dW ["form", "numbers"] [] := FW.bindsN fun _ _ _ _ _ _ us hl => match us, hl with | [_, _], _ => rfl
  have GV : FnOk P w K mg base CX0 2 fV dV ["arrow", "up", "test"] (spLev K) := ok_lev FV M gg FW gW FL gL
  have bV : Binds K dV ["arrow", "up", "test"] [] := FV.bindsN fun _ _ _ _ _ _ us hl => match us, hl with | [_, _, _], _ => rfl
  have GN : FnOk P w K mg base CX0 2 fN dN ["one", "other", "found", "done"] (spNb K) := ok_nb FN M FW gW
  have bN : Binds K dN ["one", "other", "found", "done"] [] := FN.bindsN fun _ _ _ _ _ _ us hl => match us, hl with | [_, _, _, _], _ => rfl
  refine F.ok scCa (fun vs H Q E h => ?_) (fun cdv A outer s H vs Q E hr h => ?_)
  · obtain ⟨l, d, t, gt, xs, ys, fs, ds, n, rfl, _⟩ := h
    rfl
  · obtain ⟨l, d, t, gt, xs, ys, fs, ds, n, rfl, ht, hl, hxs, hd, hys, n4, lt, lf, ld, bt, bf, bd, fl, dl, ap, k⟩ := h
    have hr1 := hr.mono (show 1 ≤ 2 by decide)
    refine ⟨_, PSs.nox <| pss_cons (ps_setLc (i := 3) (own := [("arrow", 6)]) (g := gName 6) rfl scCa.nd rfl rfl (sw_true rfl rfl rfl (by decide +kernel)) (pi_list (pv 0)) (blkOk_by (N := nCa) (sc := defScope sCa) (by decide +kernel)) (fun _ _ _ _ _ => pg_name (i := 6) scCa.nd rfl (Or.inl rfl))
          (fun _ _ _ _ _ => pts_one (pt_cmpR op_ge (pe_call GW hr1 (by rfl) gW FW.kp bW .nil pass0 (pa_cons (pv 2) (pa_cons (pv 6) pa_nil))) pe_int (nomark _)))
          (fun _ _ _ _ _ => pv 6))
      <| pss_cons (ps_for PassesOwn.never rfl (pi_list (pv 0)) (pg_name (i := 4) scCa.nd rfl (.inl rfl))
          (pss_one (ps_for PassesOwn.never rfl (pi_list (pv 0)) (pg_name (i := 5) scCa.nd rfl (.inl rfl))
            (pss_one (ps_if (PW.pt (pw_and (pt_chain op_gt op_gt (pe_call GW hr1 (by rfl) gW FW.kp bW .nil pass0 (pa_cons (pv 2) (pa_cons (pv 4) pa_nil))) pe_int (pe_call GW hr1 (by rfl) gW FW.kp bW .nil pass0 (pa_cons (pv 2) (pa_cons (pv 5) pa_nil))))
                (pw_and1 (pt_val (pe_call GN hr (by rfl) gN FN.kp bN .nil pass0 (pa_cons (pv 4) (pa_cons (pv 5) (pa_cons (pv 0) (pa_cons (pv 1) pa_nil)))))))))
              (pss_one (ps_expr (pe_bm PySem.F.plainAttrs_list PySem.F.slot_list_append PySem.F.type_list_append mt_append (pv 3) (pa_cons (pe_call GV hr (by rfl) gV FV.kp bV .nil pass0 (pa_cons (pv 5) (pa_cons (pv 4) (pa_cons (pv 2) pa_nil)))) pa_nil)))) pss_nil)))))
      <| pss_one (ps_ret (pv 3)), ?_⟩
    refine ⟨_, rfl, l, rfl, ⟨_, hl⟩, lcF (walk_list (xs := xs)) (n1 := by rw [hxs.1]; omega) (fun H' s' => s'.seq hl) (fun i => decide (0 ≤ dot gt (fs.getD i []))) (fun i y H => ∃ a, y = .ref a ∧ SqT K H a ((fs.getD i []).map V.int)) (fun i y H H' s' ⟨a, e, h2⟩ => ⟨a, e, Same.seqT s' h2⟩) ?_ ?_⟩
    · rintro D acc i x Ha Hb K2 S hi s nD hD ⟨rfl, ex⟩ kk ks
      obtain ⟨a, rfl, ha, hm⟩ := hxs.at ex
      have la := lf _ hm
      refine ⟨rfl, _, rfl, _, rfl, t, a, gt, _, 400, 4000, rfl, Same.seqT s ht, Same.seqT s ha, by omega, by omega, bt, bf _ hm, by decide, by decide, fun H1 s1 => ⟨_, _, rfl, rfl, _, rfl, ?_⟩⟩
      by_cases h1 : 0 ≤ dot gt (fs.getD i [])
      · exact iteDY h1 ⟨_, rfl, kk _ _ (decide_eq_true h1) s1 ⟨a, rfl, Same.seqT (same_del (s.trans s1) nD) ha⟩⟩
      · exact iteDN h1 (ks _ (decide_eq_false h1) s1)
    · rintro D Hb cs0 nw hlen he
      rw [hxs.1] at hlen he
      have hcs : VA K Hb cs0 (fs.filter fun a => decide (0 ≤ dot gt a)) := by
        have h2 := VA.kept (K := K) (H := Hb) (gs := fs) (b := fun i => decide (0 ≤ dot gt (fs.getD i []))) (ys := cs0) (e := fun k => fs.getD k []) (E := fun _ _ => True) hlen fun j y ej => by
          obtain ⟨k, ek, a, e, h3⟩ := he j y ej
          exact ⟨k, ek, a, e, Same.seqT del_same h3⟩
        rw [filter_kept [] (fun a => decide (0 ≤ dot gt a)) fs] at h2
        exact h2
      have nD := nw.1
      have hDb := nw.2.1
      have sb := nw.2.2
      have fl0 : (fs.filter fun a => decide (0 ≤ dot gt a)).length ≤ 2000 := Nat.le_trans (List.length_filter_le _ _) fl
      refine ⟨_, rfl, l, rfl, ⟨_, sb.seq hl⟩, for_list (K := K) (a := l) (xs := xs) (fun i σ H2 => ∃ x4 x5 x6 cs, σ = [some (.ref l), some (.ref d), some (.ref t), some (.ref D), x4, x5, x6] ∧ Same H H2 ∧ H2 D = some (.lst cs) ∧ VA K H2 cs (fs.filter (fun a => decide (0 ≤ dot gt a)) ++ newF fs ds gt i)) ⟨_, _, _, cs0, rfl, sb, hDb, by simpa [newF] using hcs⟩ (fun i σ H2 _ ⟨_, _, _, _, _, s2, _⟩ => s2.seq hl) ?_ ?_⟩
      · rintro i y σ H2 hi ⟨x4, x5, x6, cs, rfl, s2, hD2, hcs2⟩
        obtain ⟨a, rfl, ha, hma⟩ := hxs.at hi
        have la := lf _ hma
        have hil : i < fs.length := by rw [← hxs.1]; exact (List.getElem?_eq_some_iff.mp hi).1
        refine ⟨_, rfl, l, rfl, ⟨_, s2.seq hl⟩, for_list (K := K) (a := l) (xs := xs) (fun j σ H2 => ∃ x5 x6 cs, σ = [some (.ref l), some (.ref d), some (.ref t), some (.ref D), some (.ref a), x5, x6] ∧ Same H H2 ∧ H2 D = some (.lst cs) ∧ VA K H2 cs (fs.filter (fun a => decide (0 ≤ dot gt a)) ++ newF fs ds gt i ++ rowF fs ds gt i j)) ⟨_, _, cs, rfl, s2, hD2, by simpa [rowF, kept] using hcs2⟩ (fun i σ H2 _ ⟨_, _, _, _, s2, _⟩ => s2.seq hl) ?_ ?_⟩
        · rintro j y σ H3 hj ⟨x5, x6, cs3, rfl, s3, hD3, hcs3⟩
          obtain ⟨b, rfl, hb, hmb⟩ := hxs.at hj
          have lb := lf _ hmb
          have hjl : j < fs.length := by rw [← hxs.1]; exact (List.getElem?_eq_some_iff.mp hj).1
          refine ⟨_, rfl, _, rfl, t, a, gt, _, 400, 4000, rfl, Same.seqT s3 ht, Same.seqT s3 ha, by omega, by omega, bt, bf _ hma, by decide, by decide, fun H4 s4 => ⟨_, _, rfl, rfl, _, rfl, ?_⟩⟩
          have s04 := s3.trans s4
          have no : ∀ {H5 : Hp}, Same H3 H5 → condF fs ds gt i j = false → ∃ y5 y6 cs, [some (V.ref l), some (.ref d), some (.ref t), some (.ref D), some (.ref a), some (.ref b), x6] = [some (V.ref l), some (.ref d), some (.ref t), some (.ref D), some (.ref a), y5, y6] ∧ Same H H5 ∧ H5 D = some (.lst cs) ∧ VA K H5 cs (fs.filter (fun a => decide (0 ≤ dot gt a)) ++ newF fs ds gt i ++ rowF fs ds gt i (j + 1)) := fun s5 hc => by
            refine ⟨_, _, cs3, rfl, s3.trans s5, s5 _ _ hD3, ?_⟩
            unfold rowF
            rw [kept_no hc]
            exact hcs3.same s5
          by_cases h1 : 0 < dot gt (fs.getD i [])
          · refine iteDY h1 ?_
            refine ⟨_, rfl, _, rfl, t, b, gt, _, 400, 4000, rfl, Same.seqT s04 ht, Same.seqT s04 hb, by omega, by omega, bt, bf _ hmb, by decide, by decide, fun H5 s5 => ⟨_, _, rfl, rfl, _, rfl, ?_⟩⟩
            have s35 := s4.trans s5
            have s05 := s04.trans s5
            by_cases h2 : dot gt (fs.getD j []) < 0
            · refine iteDY h2 ?_
              refine ⟨_, rfl, _, rfl, _, rfl, _, rfl, a, b, l, d, _, _, xs, ys, fs, ds, n, rfl, Same.seqT s05 ha, Same.seqT s05 hb, s05.seq hl, hxs.same s05, s05.seq hd, hys.same s05, n4, la, lb, lf, ld, bf _ hma, bf _ hmb, bf, bd, by omega, by omega, fun H6 s6 => ⟨_, rfl, ?_⟩⟩
              have s36 := s35.trans s6
              have s06 := s05.trans s6
              cases h3 : nbF (fs.getD i []) (fs.getD j []) fs ds with
              | true =>
                refine iteT ?_
                have hc : condF fs ds gt i j = true := by
                  unfold condF
                  rw [decide_eq_true h1, decide_eq_true h2, h3]
                  rfl
                refine ⟨_, rfl, .inl ⟨rfl, _, SqL.of (s36 _ _ hD3)⟩, _, rfl, _, rfl, _, rfl, b, a, t, _, _, gt, rfl, Same.seqT s06 hb, Same.seqT s06 ha, Same.seqT s06 ht, by omega, by omega, by omega, bf _ hmb, bf _ hma, bt, ap i j hil hjl h1 h2, fun q H7 s7 hq => ?_⟩
                have hD7 := s7 _ _ (s36 _ _ hD3)
                refine ⟨D, cs3, _, rfl, rfl, hD7, ?_, ?_⟩
                · have e1 := hcs3.1
                  have e2 := new_le fs ds gt i
                  have e3 := row_le fs ds gt i j
                  have e4 : i * fs.length ≤ 2000 * 2000 := Nat.mul_le_mul (by omega) fl
                  rw [List.length_append, List.length_append] at e1
                  have e5 : sizeLine = 16777216 := by decide
                  rw [e5]
                  omega
                · refine ⟨_, _, cs3 ++ [V.ref q], rfl, fun b' u e => ?_, upd_same, ?_⟩
                  · rw [upd_ne (ne_of_none e nD)]
                    exact (s06.trans s7) b' u e
                  · have e6 : rowF fs ds gt i (j + 1) = rowF fs ds gt i j ++ [levF (fs.getD j []) (fs.getD i []) gt] := by
                      unfold rowF
                      rw [kept_yes hc, List.map_append]
                      rfl
                    rw [e6, ← List.append_assoc]
                    exact ((hcs3.same (s36.trans s7)).push hq).nl (nl_upd hD7)
              | false => exact iteF (no s36 (by unfold condF; rw [h3, Bool.and_false, Bool.and_false]))
            · exact iteDN h2 (no s35 (by unfold condF; rw [decide_eq_false h2, Bool.false_and, Bool.and_false]))
          · exact iteDN h1 ⟨_, rfl, iteF (no s4 (by unfold condF; rw [decide_eq_false h1, Bool.false_and]))⟩
        · rintro σ H3 ⟨x5, x6, cs3, rfl, s3, hD3, hcs3⟩
          refine ⟨_, _, _, cs3, rfl, s3, hD3, ?_⟩
          rw [new_succ, ← List.append_assoc, ← hxs.1]
          exact hcs3
      · rintro σ H3 ⟨x4, x5, x6, cs3, rfl, s3, hD3, hcs3⟩
        refine ⟨_, rfl, k D cs3 H3 s3 hD3 nD ?_⟩
        unfold cutA
        rw [← hxs.1]
        exact hcs3
end
end Pg
set_option Elab.async false
set_option linter.all false
set_option maxRecDepth 100000
set_option maxHeartbeats 4000000
namespace K5
open PySem PySem.Spec PyProof.Rows L2 Gd Rl
abbrev top := Pg.top
abbrev sWell : Stmt := top 26
abbrev sDraw : Stmt := top 27
abbrev sPick : Stmt := top 28
abbrev FnP (K : PySem.W.Frag) (x : Str) (st : Stmt) (f : Addr) (fd : FuncData) : Prop := Pg.FnP K x st f fd
/-- a well: the state, the count, what is left of the own number -/
structure Well (H : Hp) (p : Addr) : Prop where
  ex : ∃ st c o : Int, H p = some (.lst [.int st, .int c, .int o]) ∧ 0 ≤ st ∧ 0 ≤ o
/-- what was tracked stands, but perhaps at p -/
def But (p : Addr) (H H' : Hp) : Prop := ∀ b o, H b = some o → b ≠ p → H' b = some o
theorem But.refl {p : Addr} {H : Hp} : But p H H := fun _ _ e _ => e
theorem But.trans {p : Addr} {H H1 H2 : Hp} (a : But p H H1) (b : But p H1 H2) : But p H H2 := fun c o e n => b c o (a c o e n) n
theorem But.same {p : Addr} {H H1 : Hp} (s : Same H H1) : But p H H1 := fun c o e _ => s c o e
theorem Well.same {H H' : Hp} {p : Addr} (h : Well H p) (e : Same H H') : Well H' p := by
  obtain ⟨st, c, o, h1, h2⟩ := h
  exact ⟨st, c, o, e _ _ h1, h2⟩
def spDraw : Sp := fun vs H Q _ => ∃ (p : Addr) (n : Int), vs = [.ref p, .int n] ∧ Well H p ∧ 1 ≤ n ∧ n ≤ 1000000000 ∧ ∀ (r : Int) (H' : Hp), 0 ≤ r → r < n → Well H' p → But p H H' → Q (.int r) H'
structure Bl (mg : Str → Option Value) : Prop where
  len : mg "len" = none
  divmod : mg "divmod" = none
  int : mg "int" = none
  abs : mg "abs" = none
section
variable {P : Program} {w : World} {K : PySem.W.Frag} {mg : Str → Option Value} {base : Heap} {f : Addr} {fd : FuncData}
abbrev nDraw : List Str := ["_law_well_here", "_law_many", "_law_digit", "_law_seed"]
theorem scDraw : FnScope nDraw ["_law_well_here", "_law_many"] (defScope sDraw) := ⟨rfl, rfl, rfl, by decide +kernel, rfl, by decide +kernel, by decide +kernel⟩
theorem ok_draw (F : FnP K "_law_draw" sDraw f fd) (T : Bl mg) : FnOk P w K mg base CX0 1 f fd ["_law_well_here", "_law_many"] spDraw := by
  refine F.ok scDraw (fun vs H Q E h => ?_) (fun cdv A outer s H vs Q E hr h => ?_)
  · obtain ⟨p, n, rfl, _⟩ := h
    rfl
  · obtain ⟨p, n, rfl, ⟨st, c, o, hp, h0, ho⟩, n1, n2, k⟩ := h
    refine ⟨_, PSs.nox (pss_cons (ps_if (pt_cmpR op_gt (pe_ix ix_list (pv 0) pe_int (fun _ _ => rfl)) pe_int (nomark _))
        (pss_cons (ps_asg (pe_callB call_divmod (by rfl) T.divmod (by decide +kernel) (pa_cons (pe_ix ix_list (pv 0) pe_int (fun _ _ => rfl)) (pa_cons (pv 1) pa_nil))) (pg_tup (by rfl) (pgs_cons (pg_sub (pv 0) pe_int set_list) (pgs_cons (pg_name (i := 2) scDraw.nd rfl (.inl rfl)) pgs_nil))))
          (pss_one (ps_ret (pv 2)))) pss_nil)
      (pss_cons (ps_asg (pe_op op_add (pe_ix ix_list (pv 0) pe_int (fun _ _ => rfl)) pe_int) (pg_sub (pv 0) pe_int set_list))
      (pss_cons (ps_set (i := 3) scDraw.nd rfl (.inl rfl) (pe_callTy call_int1 (by rfl) T.int (by decide +kernel) (pa_cons (pe_ix ix_list (pv 0) pe_int (fun _ _ => rfl)) pa_nil)))
      (pss_cons (ps_asg (pe_op op_mod (pe_callTy call_int1 (by rfl) T.int (by decide +kernel) (pa_cons (pe_op op_add (pe_op op_add (pe_op op_mul (pv 3) pe_int) (pe_op op_mul (pe_ix ix_list (pv 0) pe_int (fun _ _ => rfl)) pe_int)) pe_int) pa_nil)) pe_int) (pg_sub (pv 0) pe_int set_list))
      (pss_one (ps_ret (pe_op op_mod (pe_callTy call_int1 (by rfl) T.int (by decide +kernel) (pa_cons (pe_op op_fdiv (pe_ix ix_list (pv 0) pe_int (fun _ _ => rfl)) pe_int) pa_nil)) (pv 1)))))))), ?_⟩
    refine ⟨_, rfl, p, _, _, _, rfl, rfl, SqL.of hp, rfl, _, _, rfl, rfl, _, rfl, ?_⟩
    refine ite2 (fun hc => ?_) (fun hc => ?_)
    · refine ⟨_, rfl, p, _, _, _, rfl, rfl, SqL.of hp, rfl, _, rfl, _, _, rfl, ⟨by omega, by omega⟩, fun q hq => ?_⟩
      have pq : p ≠ q := ne_of_none hp hq
      have ho' : 0 < o := of_decide_eq_true hc
      refine ⟨q, _, rfl, SqT.of upd_same, rfl, _, _, rfl, _, rfl, p, _, _, 2, rfl, rfl, (by rw [upd_ne pq]; exact hp), rfl, ?_⟩
      refine ⟨_, _, rfl, ?_⟩
      refine ⟨rfl, _, rfl, ?_⟩
      refine k (o % n) _ (Int.emod_nonneg _ (by omega)) (Int.emod_lt_of_pos _ (by omega)) ⟨st, c, o / n, upd_same, h0, Int.ediv_nonneg (by omega) (by omega)⟩ fun b u e nb => ?_
      rw [upd_ne nb, upd_ne (ne_of_none e hq)]
      exact e
    · refine ⟨_, rfl, p, _, _, _, rfl, rfl, SqL.of hp, rfl, _, _, rfl, rfl, _, rfl, p, _, _, 1, rfl, rfl, hp, rfl, ?_⟩
      refine ⟨_, rfl, p, _, _, _, rfl, rfl, SqL.of upd_same, rfl, .inl ⟨_, rfl, ?_⟩⟩
      refine ⟨_, rfl, _, _, rfl, rfl, .inr ⟨by decide, by decide⟩, _, rfl, p, _, _, _, rfl, rfl, SqL.of upd_same, rfl, _, _, rfl, rfl, .inr ⟨by decide, by decide⟩, _, _, rfl, rfl, _, _, rfl, rfl, .inl ⟨_, rfl, _, _, rfl, rfl, (by show (0 : Int) < 2147483629; decide), ?_⟩⟩
      refine ⟨_, rfl, p, _, _, 0, rfl, rfl, upd_same, rfl, ?_⟩
      refine ⟨_, rfl, p, _, _, _, rfl, rfl, SqL.of upd_same, rfl, _, _, rfl, rfl, ⟨by decide, by decide⟩, .inl ⟨_, rfl, _, rfl, _, _, rfl, rfl, (by show (0 : Int) < n; omega), ?_⟩⟩
      refine k _ _ (Int.emod_nonneg _ (by omega)) (Int.emod_lt_of_pos _ (by omega)) ⟨_, _, o, upd_same, Int.emod_nonneg _ (by decide), ho⟩ fun b u e nb => ?_
      rw [upd_ne nb, upd_ne nb]
      exact e
/-! ### any of a list -/
def spPick (K : PySem.W.Frag) : Sp := fun vs H Q _ => ∃ (p l : Addr) (xs : List V), vs = [.ref p, .ref l] ∧ Well H p ∧ H l = some (.lst xs) ∧ l ≠ p ∧ 0 < xs.length ∧ xs.length ≤ 1000 ∧
  ∀ (i : Nat) (x : V) (H' : Hp), xs[i]? = some x → Well H' p → But p H H' → Q x H'
theorem scPick : FnScope ["_law_well_here", "_law_choices"] ["_law_well_here", "_law_choices"] (defScope sPick) := ⟨rfl, rfl, rfl, by decide +kernel, rfl, by decide +kernel, by decide +kernel⟩
theorem ok_pick {fC : Addr} {fdC : FuncData} (F : FnP K "_law_pick" sPick f fd) (T : Bl mg) (FC : FnP K "_law_draw" sDraw fC fdC) (gC : mg "_law_draw" = some (.ref fC)) : FnOk P w K mg base CX0 2 f fd ["_law_well_here", "_law_choices"] (spPick K) := by
  have GC : FnOk P w K mg base CX0 1 fC fdC ["_law_well_here", "_law_many"] spDraw := ok_draw FC T
  have bC : Binds K fdC ["_law_well_here", "_law_many"] [] := FC.bindsN fun _ _ _ _ _ _ us hl => match us, hl with | [_, _], _ => rfl
  refine F.ok scPick (fun vs H Q E h => ?_) (fun cdv A outer s H vs Q E hr h => ?_)
  · obtain ⟨p, l, xs, rfl, _⟩ := h
    rfl
  · obtain ⟨p, l, xs, rfl, hp, hl, lp, x0, x1, k⟩ := h
    refine ⟨_, PSs.nox (pss_one (ps_ret (pe_ix ix_list (pv 1) (pe_call GC hr (by rfl) gC FC.kp bC .nil pass0 (pa_cons (pv 0) (pa_cons (pe_callB call_len (by rfl) T.len PySem.boot_len (pa_cons (pv 1) pa_nil)) pa_nil))) (fun _ _ => rfl)))), ?_⟩
    refine ⟨_, rfl, _, rfl, _, rfl, _, xs.length, rfl, .inl ⟨_, SqL.of hl, rfl⟩, p, _, rfl, hp, by omega, by omega, fun r H' r0 r1 hp' bt => ?_⟩
    have hl' : H' l = some (.lst xs) := bt l _ hl lp
    have hi : r.toNat < xs.length := by omega
    have er : xs[r.toNat]? = some xs[r.toNat] := by simp [hi]
    have e2 : atI xs r = some xs[r.toNat] := by
      have := atI_nat er
      rwa [Int.toNat_of_nonneg r0] at this
    exact ⟨l, _, r, _, rfl, rfl, SqL.of hl', e2, k r.toNat _ H' er hp' bt⟩
end
end K5
set_option Elab.async false
set_option linter.all false
set_option maxRecDepth 100000
set_option maxHeartbeats 4000000
namespace K5
open PySem PySem.Spec PyProof.Rows L2 Gd Rl
theorem cut_ints {ns : List Int} {lo hi : Option Int} {x : V} (m : x ∈ cutV (ns.map V.int) lo hi) : ∃ z, x = V.int z := by
  unfold cutV at m
  have m2 := List.mem_of_mem_drop (List.mem_of_mem_take m)
  obtain ⟨z, _, e⟩ := List.mem_map.mp m2
  exact ⟨z, e.symm⟩
theorem cut_len (xs : List V) (lo hi : Option Int) : (cutV xs lo hi).length ≤ xs.length := by
  unfold cutV
  rw [List.length_take, List.length_drop]
  omega
section
variable {P : Program} {w : World} {K : PySem.W.Frag} {mg : Str → Option Value} {base : Heap} {f : Addr} {fd : FuncData}
def spWell (K : PySem.W.Frag) : Sp := fun vs H Q _ => ∃ (a : Addr) (ns : List Int) (t : Nat), vs = [.ref a, .int t] ∧ SqL K H a (ns.map V.int) ∧ ns.length ≤ 63 ∧ t ≤ 1000 ∧
  ∀ (p : Addr) (H' : Hp), Same H H' → H p = none → Well H' p → Q (.ref p) H'
abbrev nWell : List Str := ["_law_script", "_law_spot", "_law_state", "_law_cell", "_law_own"]
theorem scWell : FnScope nWell ["_law_script", "_law_spot"] (defScope sWell) := ⟨rfl, rfl, rfl, by decide +kernel, rfl, by decide +kernel, by decide +kernel⟩
theorem ok_well (F : FnP K "_law_well" sWell f fd) (T : Bl mg) : FnOk P w K mg base CX0 1 f fd ["_law_script", "_law_spot"] (spWell K) := by
  refine F.ok scWell (fun vs H Q E h => ?_) (fun cdv A outer s H vs Q E hr h => ?_)
  · obtain ⟨a, ns, t, rfl, _⟩ := h
    rfl
  · obtain ⟨a, ns, t, rfl, hS, hn, ht, k⟩ := h
    refine ⟨_, PSs.nox <| pss_cons (ps_set (i := 2) scWell.nd rfl (.inl rfl) (pe_op op_add pe_int (pe_op op_mul pe_int (pv 1))))
      <| pss_cons (ps_for PassesOwn.never rfl (pi_list (pe_op op_catR (pe_slice (r := rSlR K) sl_listR (pv 0) po_none (po_some pe_int)) (pe_slice (r := rSlR K) sl_listR (pv 0) (po_some (pv 1)) (po_some (pe_op op_add (pv 1) pe_int))))) (pg_name (i := 3) scWell.nd rfl (.inl rfl))
        (pss_one (ps_set (i := 2) scWell.nd rfl (.inl rfl) (pe_op op_mod (pe_callTy call_int1 (by rfl) T.int (by decide +kernel) (pa_cons (pe_op op_add (pe_op op_add (pe_op op_mul (pv 2) pe_int) (pv 3)) pe_int) pa_nil)) pe_int))))
      <| pss_cons (ps_set (i := 4) scWell.nd rfl (.inl rfl) (pe_ifExp (pt_cmpR op_lt (pv 1) (pe_callB call_len (by rfl) T.len PySem.boot_len (pa_cons (pv 0) pa_nil)) (nomark _)) (pe_ix ix_list (pv 0) (pv 1) (fun _ _ => rfl)) pe_int))
      <| pss_one (ps_ret (pe_lstR (pa_cons (pv 2) (pa_cons pe_int (pa_cons (pe_ifExp (pt_cmpR op_ge (pe_callB call_abs (by rfl) T.abs (by decide +kernel) (pa_cons (pv 4) pa_nil)) (pe_op op_pow pe_int pe_int) (nomark _)) (pe_callB call_abs (by rfl) T.abs (by decide +kernel) (pa_cons (pv 4) pa_nil)) pe_int) pa_nil))))), ?_⟩
    refine ⟨_, rfl, _, _, rfl, rfl, .inl ⟨by omega, by omega⟩, _, _, rfl, rfl, ?_⟩
    refine ⟨_, rfl, 4, rfl, a, _, rfl, hS, fun p1 H1 n1 => ?_⟩
    refine ⟨_, rfl, _, rfl, (t : Int), rfl, _, rfl, _, _, rfl, rfl, _, rfl, a, _, rfl, n1.2.2.seq hS, fun p2 H2 n2 => ?_⟩
    have l1 := cut_len (ns.map V.int) none (some 4)
    have l2 := cut_len (ns.map V.int) (some t) (some ((t : Int) + 1))
    rw [List.length_map] at l1 l2
    refine ⟨p1, p2, _, _, rfl, rfl, n2.2.2 _ _ n1.2.1, n2.2.1, by omega, fun p3 H3 n3 => ?_⟩
    have s03 := (n1.2.2.trans n2.2.2).trans n3.2.2
    refine ⟨p3, rfl, ⟨_, SqL.of n3.2.1⟩, for_list (K := K) (a := p3) (xs := cutV (ns.map V.int) none (some 4) ++ cutV (ns.map V.int) (some t) (some ((t : Int) + 1))) (fun i σ H4 => ∃ (st : Int) (cell : Option V), σ = [some (.ref a), some (.int t), some (.int st), cell, none] ∧ Same H3 H4 ∧ 0 ≤ st) ⟨_, none, rfl, Same.refl _, by omega⟩ (fun i σ H4 _ ⟨_, _, _, s4, _⟩ => SqL.of (s4 _ _ n3.2.1)) ?_ ?_⟩
    · rintro i y σ H4 hi ⟨st, cell, rfl, s4, h0⟩
      obtain ⟨z, rfl⟩ : ∃ z, y = V.int z := by
        rcases List.mem_append.mp (List.mem_of_getElem? hi) with m | m
        · exact cut_ints m
        · exact cut_ints m
      refine ⟨_, rfl, _, _, rfl, rfl, .inr ⟨by decide, by decide⟩, _, rfl, _, _, rfl, rfl, _, _, rfl, rfl, .inl ⟨_, rfl, _, _, rfl, rfl, (by show (0 : Int) < 2147483579; decide), ?_⟩⟩
      exact ⟨_, _, rfl, s4, Int.emod_nonneg _ (by decide)⟩
    · rintro σ H4 ⟨st, cell, rfl, s4, h0⟩
      have s04 := s03.trans s4
      have fin : ∀ (v : Int), 0 ≤ v → ∀ p H6, New H4 p (.lst [.int st, .int 0, .int v]) H6 → Q (.ref p) H6 := fun v hv p H6 n6 => k p H6 (s04.trans n6.2.2) (s04.free n6.1) ⟨st, 0, v, n6.2.1, h0, hv⟩
      refine ⟨_, rfl, _, rfl, _, (ns.map V.int).length, rfl, .inl ⟨_, s04.seq hS, rfl⟩, _, _, rfl, rfl, _, rfl, ?_⟩
      refine ite2 (fun hc => ?_) (fun hc => ?_)
      · have hlt : t < ns.length := by
          have z : ((t : Nat) : Int) < ((ns.map V.int).length : Nat) := of_decide_eq_true hc
          rw [List.length_map] at z
          omega
        have er : (ns.map V.int)[t]? = some (V.int ns[t]) := by simp [hlt]
        refine ⟨_, rfl, _, rfl, a, _, _, _, rfl, rfl, s04.seq hS, atI_nat er, ?_⟩
        refine ⟨_, rfl, _, rfl, _, rfl, _, _, rfl, rfl, ⟨by decide, by decide, by decide⟩, _, _, rfl, rfl, _, rfl, ?_⟩
        refine ite2 (fun h1 => ?_) (fun h1 => ?_)
        · exact ⟨_, rfl, _, rfl, by show 3 ≤ 1000; decide, fin _ (by split <;> omega)⟩
        · exact ⟨by show 3 ≤ 1000; decide, fin _ (by omega)⟩
      · refine ⟨_, rfl, _, rfl, _, rfl, _, _, rfl, rfl, ⟨by decide, by decide, by decide⟩, _, _, rfl, rfl, _, rfl, ?_⟩
        refine ite2 (fun h1 => ?_) (fun h1 => ?_)
        · exact ⟨_, rfl, _, rfl, by show 3 ≤ 1000; decide, fin _ (by split <;> omega)⟩
        · exact ⟨by show 3 ≤ 1000; decide, fin _ (by omega)⟩
end
end K5
set_option Elab.async false
set_option linter.all false
set_option maxRecDepth 100000
set_option maxHeartbeats 8000000
namespace L2
open PySem PySem.Spec PyProof.Rows
/-! data without dicts compared, whatever its texts -/
def rEqP (K : PySem.W.Frag) : R2 := fun x y H Q => ∃ d e, Dp K H x d ∧ Dp K H y e ∧ d.plain = true ∧ e.plain = true ∧ d.depth ≤ 64 ∧ Q (.bl (PyData.eqv d e)) H
def rNeP (K : PySem.W.Frag) : R2 := fun x y H Q => ∃ d e, Dp K H x d ∧ Dp K H y e ∧ d.plain = true ∧ e.plain = true ∧ d.depth ≤ 64 ∧ Q (.bl (!PyData.eqv d e)) H
section
variable {X : Cx}
theorem op_eqP (hu : X.A.units + 64 < cLine) : OpR X (compareOp .Eq) (rEqP X.K) := by
  intro pins s σ H x y v u Q I rx ry h
  obtain ⟨d, e, hd, he, sd, se, dd, q⟩ := h
  obtain ⟨as, r1⟩ := Dp.reads I d x v hd rx
  obtain ⟨bs, r2⟩ := Dp.reads I e y u he ry
  exact SeqAt.eq_plain r1 r2 sd se (Nat.lt_of_le_of_lt (Nat.add_le_add_left (Nat.le_trans (Nat.min_le_left _ _) dd) _) hu) ⟨.bl _, H, I, rfl, q⟩
theorem op_neP (hu : X.A.units + 64 < cLine) : OpR X (compareOp .NotEq) (rNeP X.K) := by
  intro pins s σ H x y v u Q I rx ry h
  obtain ⟨d, e, hd, he, sd, se, dd, q⟩ := h
  obtain ⟨as, r1⟩ := Dp.reads I d x v hd rx
  obtain ⟨bs, r2⟩ := Dp.reads I e y u he ry
  exact SeqAt.ne_plain r1 r2 sd se (Nat.lt_of_le_of_lt (Nat.add_le_add_left (Nat.le_trans (Nat.min_le_left _ _) dd) _) hu) ⟨.bl _, H, I, rfl, q⟩
end
end L2
namespace Pg
open PySem PySem.Spec PyProof.Rows L2 Gd Rl Te Vd Fx RZ Dd
theorem eqv_ints : ∀ xs ys : List Int, PyData.eqvAll (xs.map PyData.int) (ys.map PyData.int) = decide (xs = ys)
  | [], [] => by simp [PyData.eqvAll]
  | [], y :: ys => by simp [PyData.eqvAll]
  | x :: xs, [] => by simp [PyData.eqvAll]
  | x :: xs, y :: ys => by
    rw [List.map_cons, List.map_cons, PyData.eqvAll, eqv_ints xs ys, PyData.eqv]
    rw [Bool.eq_iff_iff, Bool.and_eq_true, beq_iff_eq, decide_eq_true_iff, decide_eq_true_iff, List.cons.injEq]
/-- a state: a place and values -/
def plD (s : Str × List Int) : PyData := .tuple [.str s.1, fD s.2]
theorem plain_ints : ∀ xs : List Int, PyData.plainAll (xs.map PyData.int) = true
  | [] => by simp [PyData.plainAll]
  | x :: xs => by
    rw [List.map_cons, PyData.plainAll, plain_ints xs, PyData.plain]
    rfl
theorem plain_f (xs : List Int) : PyData.plain (fD xs) = true := by
  show PyData.plain (.tuple _) = true
  rw [PyData.plain, plain_ints]
theorem depth_ints : ∀ xs : List Int, PyData.depthAll (xs.map PyData.int) ≤ 1
  | [] => by simp [PyData.depthAll]
  | x :: xs => by
    have := depth_ints xs
    simp only [List.map_cons, PyData.depthAll, PyData.depth]
    omega
theorem dp_ints {K : PySem.W.Frag} {H : Hp} {p : Addr} {f : List Int} (h : SqT K H p (f.map V.int)) : Dp K H (.ref p) (fD f) := by
  refine .tup h ?_
  clear h
  induction f with
  | nil => exact .nil
  | cons i f ih => exact .cons (.int i) ih
end Pg
set_option Elab.async false
set_option linter.all false
set_option maxRecDepth 100000
set_option maxHeartbeats 8000000
set_option exponentiation.threshold 10000
namespace Dd
def acrF (ls : List (List Int)) (t : List Int) : List (List Int) := ls.filter fun l => !decide (dot t l = 0)
def negF (g : List Int) : List Int := g.map fun z => -z
/-- the line that crosses, turned up -/
def upF (a t : List Int) : List Int := if dot t a < 0 then negF a else a
def lvlL (ls : List (List Int)) (a t : List Int) : List (List Int) := (ls.filter fun l => !decide (l = a)).map fun l => levF l (upF a t) t
def lvlA (fs : List (List Int)) (a t : List Int) : List (List Int) := fs.map (fun f => levF f (upF a t) t) ++ [upF a t]
def cutL (ls : List (List Int)) (t : List Int) : List (List Int) := match acrF ls t with
  | [] => ls
  | a :: _ => lvlL ls a t
def cutF (ls fs ds : List (List Int)) (t : List Int) : List (List Int) := match acrF ls t with
  | [] => cutA fs ds t
  | a :: _ => lvlA fs a t
/-- nothing falls together -/
def CutOk (ls fs ds : List (List Int)) (t : List Int) : Prop := match acrF ls t with
  | [] => Apart fs ds t
  | a :: _ => (∀ l ∈ ls, l ≠ a → 0 < gcdF (combF (dot t (upF a t)) (dot t l) l (upF a t))) ∧ ∀ f ∈ fs, 0 < gcdF (combF (dot t (upF a t)) (dot t f) f (upF a t))
theorem neg_len (g : List Int) : (negF g).length = g.length := by simp [negF]
theorem up_len (a t : List Int) : (upF a t).length = a.length := by
  unfold upF
  split
  · exact neg_len a
  · rfl
theorem neg_bd {b : Nat} {g : List Int} (h : Bd b g) : Bd b (negF g) := fun z hz => by
  obtain ⟨y, hy, rfl⟩ := List.mem_map.mp hz
  rw [Int.natAbs_neg]
  exact h y hy
theorem up_bd {b : Nat} {a t : List Int} (h : Bd b a) : Bd b (upF a t) := by
  unfold upF
  split
  · exact neg_bd h
  · exact h
end Dd
namespace Pg
open PySem PySem.Spec PyProof.Rows L2 Gd Rl Te Vd Fx RZ Dd
abbrev sCut : Stmt := top 21
theorem nl_del {H : Hp} {l : Addr} {X : List V} (h : H l = some (.lst X)) : Nl H (delH H l) := fun b o e n => by
  rw [delH_ne (fun q => by rw [q, h] at e; cases e; exact n _ rfl)]
  exact e
theorem range_all (f : Nat → List Int) (n : Nat) : kept (fun _ => true) n = List.range n := by
  unfold kept
  simp
/-- two ways that come together -/
theorem withR {G : Prop} {R : Addr → Hp → Prop} (Pr : Addr → Hp → Prop) (h : (∀ q H, Pr q H → R q H) → G) (hR : ∀ q H, Pr q H → R q H) : G := h hR
theorem iteNY {c A B : Prop} [Decidable c] (hc : ¬ c) (h : A) : if (!decide c) = true then A else B := by
  rw [decide_eq_false hc]
  exact iteT h
theorem iteNN {c A B : Prop} [Decidable c] (hc : c) (h : B) : if (!decide c) = true then A else B := by
  rw [decide_eq_true hc]
  exact iteF h
theorem eqv_f (g h : List Int) : PyData.eqv (fD g) (fD h) = decide (g = h) := by
  show PyData.eqv (.tuple _) (.tuple _) = _
  rw [PyData.eqv, eqv_ints]
theorem depth_f (g : List Int) : PyData.depth (fD g) ≤ 64 := by
  have h := depth_ints g
  show PyData.depth (.tuple _) ≤ 64
  rw [PyData.depth]
  omega
section
variable {P : Program} {w : World} {K : PySem.W.Frag} {mg : Str → Option Value} {base : Heap} {f : Addr} {fd : FuncData}
def spCut (K : PySem.W.Frag) : Sp := fun vs H Q _ => ∃ (m l d t : Addr) (gt : List Int) (us xs ys : List V) (ls fs ds : List (List Int)) (n : Nat), vs = [.ref m, .ref l, .ref d, .ref t] ∧ SqT K H t (gt.map V.int) ∧ H m = some (.lst us) ∧ VA K H us ls ∧ H l = some (.lst xs) ∧ VA K H xs fs ∧ SqL K H d ys ∧ VA K H ys ds ∧
  n ≤ 4 ∧ gt.length = n ∧ Ln n ls ∧ Ln n fs ∧ Ln n ds ∧ Bd 400 gt ∧ Bds 4000 ls ∧ Bds 4000 fs ∧ Bds 400 ds ∧ ls.length ≤ 4 ∧ fs.length ≤ 900 ∧ ds.length ≤ 1000 ∧ CutOk ls fs ds gt ∧
  ∀ r m' l' us' zs H', Same H H' → SqT K H' r [.ref m', .ref l'] → H' m' = some (.lst us') → (m' = m ∨ H m' = none) → VA K H' us' (cutL ls gt) → H' l' = some (.lst zs) → H l' = none → VA K H' zs (cutF ls fs ds gt) → Q (.ref r) H'
abbrev nCut : List Str := ["lines", "found", "done", "test", "across", "first", "level_lines", "line", "number", "arrow"]
theorem scCut : FnScope nCut ["lines", "found", "done", "test"] (defScope sCut) := ⟨rfl, rfl, rfl, by decide +kernel, rfl, by decide +kernel, by decide +kernel⟩
theorem ok_cut {fW fL fV fN fC : Addr} {dW dL dV dN dC : FuncData} (F : FnP K "_cut" sCut f fd) (M : Mo mg) (gg : mg "gcd" = some (.builtin "math.gcd")) (FW : FnP K "weighed" sWei fW dW) (gW : mg "weighed" = some (.ref fW)) (FL : FnP K "lowest" sLow fL dL) (gL : mg "lowest" = some (.ref fL))
    (FV : FnP K "_leveled" sLev fV dV) (gV : mg "_leveled" = some (.ref fV)) (FN : FnP K "_are_neighbours" sNb fN dN) (gN : mg "_are_neighbours" = some (.ref fN)) (FC : FnP K "_cut_arrows" sCa fC dC) (gC : mg "_cut_arrows" = some (.ref fC)) : FnOk P w K mg base CX0 4 f fd ["lines", "found", "done", "test"] (spCut K) := by
  have GW : FnOk P w K mg base CX0 1 fW dW ["form", "numbers"] (spWei K) := ok_wei FW M
  have bW : Binds K dW ["form", "numbers"] [] := FW.bindsN fun _ _ _ _ _ _ us hl => match us, hl with | [_, _], _ => rfl
  have GV : FnOk P w K mg base CX0 2 fV dV ["arrow", "up", "test"] (spLev K) := ok_lev FV M gg FW gW FL gL
  have bV : Binds K dV ["arrow", "up", "test"] [] := FV.bindsN fun _ _ _ _ _ _ us hl => match us, hl with | [_, _, _], _ => rfl
  have GC : FnOk P w K mg base CX0 3 fC dC ["found", "done", "test"] (spCa K) := ok_ca FC M gg FW gW FL gL FV gV FN gN
  have bC : Binds K dC ["found", "done", "test"] [] := FC.bindsN fun _ _ _ _ _ _ us hl => match us, hl with | [_, _, _], _ => rfl
  refine F.ok scCut (fun vs H Q E h => ?_) (fun cdv A outer s H vs Q E hr h => ?_)
  · obtain ⟨m, l, d, t, gt, us, xs, ys, ls, fs, ds, n, rfl, _⟩ := h
    rfl
  · obtain ⟨m, l, d, t, gt, us, xs, ys, ls, fs, ds, n, rfl, ht, hm0, hus, hl0, hxs, hd, hys, n4, lt, ll, lf, ld, bt, bl, bf, bd, ml, fl, dl, ok, k⟩ := h
    have hr1 := hr.mono (show 1 ≤ 3 by decide)
    have hr2 := hr.mono (show 2 ≤ 3 by decide)
    have hm : SqL K H m us := SqL.of hm0
    have hl : SqL K H l xs := SqL.of hl0
    refine ⟨_, PSs.nox <| pss_cons (ps_set (i := 4) scCut.nd rfl (.inr rfl) (pe_lc (own := [("line", 7)]) (g := gName 7) rfl scCut.nd (pi_list (pv 0)) (blkOk_by (N := nCut) (sc := defScope sCut) (by decide +kernel)) (fun _ _ _ _ _ => pg_name (i := 7) scCut.nd rfl (Or.inl rfl))
          (fun _ _ _ _ _ => pts_one (pt_cmpR op_ne (pe_call GW hr1 (by rfl) gW FW.kp bW .nil pass0 (pa_cons (pv 3) (pa_cons (pv 7) pa_nil))) pe_int (nomark _)))
          (fun _ _ _ _ _ => pv 7)))
      <| pss_cons (ps_if (pt_not (pt_truth (pv 4) (by intro _; rfl))) (pss_one (ps_ret (pe_tupR (pa_cons (pv 0) (pa_cons (pe_call GC hr (by rfl) gC FC.kp bC .nil pass0 (pa_cons (pv 1) (pa_cons (pv 2) (pa_cons (pv 3) pa_nil)))) pa_nil))))) pss_nil)
      <| pss_cons (ps_set (i := 5) scCut.nd rfl (.inr rfl) (pe_ix ix_list (pv 4) pe_int (fun _ _ => rfl)))
      <| pss_cons (ps_if (pt_cmpR op_lt (pe_call GW hr1 (by rfl) gW FW.kp bW .nil pass0 (pa_cons (pv 3) (pa_cons (pv 5) pa_nil))) pe_int (nomark _))
          (pss_one (ps_set (i := 5) scCut.nd rfl (.inr rfl) (pe_callTy call_tuple_of (by rfl) M.tuple (by decide +kernel) (pa_cons (pe_lc (own := [("number", 8)]) (g := gName 8) (tt := tYes) rfl scCut.nd (pi_tup (pv 5)) (blkOk_by (N := nCut) (sc := defScope sCut) (by decide +kernel)) (fun _ _ _ _ _ => pg_name (i := 8) scCut.nd rfl (Or.inl rfl)) (fun _ _ _ _ _ => pts_nil)
            (fun _ _ _ _ _ => pe_un un_neg (pv 8))) pa_nil)))) pss_nil)
      <| pss_cons (ps_setLc (i := 6) (own := [("line", 7)]) (g := gName 7) rfl scCut.nd rfl rfl (sw_true rfl rfl rfl (by decide +kernel)) (pi_list (pv 0)) (blkOk_by (N := nCut) (sc := defScope sCut) (by decide +kernel)) (fun _ _ _ _ _ => pg_name (i := 7) scCut.nd rfl (Or.inl rfl))
          (fun _ _ _ _ _ => pts_one (pt_cmpR (r := rNeP K) (op_neP hr.units) (pv 7) (pe_ix (r := rIxL K) ix_list (pv 4) pe_int (fun _ _ => rfl)) (nomark _)))
          (fun _ _ _ _ _ => pe_call GV hr2 (by rfl) gV FV.kp bV .nil pass0 (pa_cons (pv 7) (pa_cons (pv 5) (pa_cons (pv 3) pa_nil)))))
      <| pss_one (ps_ret (pe_tupR (pa_cons (pv 6) (pa_cons (pe_op op_catR (pe_lc (own := [("arrow", 9)]) (g := gName 9) (tt := tYes) rfl scCut.nd (pi_list (pv 1)) (blkOk_by (N := nCut) (sc := defScope sCut) (by decide +kernel)) (fun _ _ _ _ _ => pg_name (i := 9) scCut.nd rfl (Or.inl rfl)) (fun _ _ _ _ _ => pts_nil)
          (fun _ _ _ _ _ => pe_call GV hr2 (by rfl) gV FV.kp bV .nil pass0 (pa_cons (pv 9) (pa_cons (pv 5) (pa_cons (pv 3) pa_nil))))) (pe_lstR (pa_cons (pv 5) pa_nil))) pa_nil)))), ?_⟩
    refine ⟨_, rfl, m, rfl, ⟨_, hm⟩, lcF (walk_list (xs := us)) (n1 := by rw [hus.1]; omega) (fun H' s' => s'.seq hm) (fun i => !decide (dot gt (ls.getD i []) = 0)) (fun i y H => ∃ a, y = .ref a ∧ SqT K H a ((ls.getD i []).map V.int)) (fun i y H H' s' ⟨a, e, h2⟩ => ⟨a, e, Same.seqT s' h2⟩) ?_ ?_⟩
    · rintro D acc i x Ha Hb K2 S hi s nD hD ⟨rfl, ex⟩ kk ks
      obtain ⟨a, rfl, ha, hma⟩ := hus.at ex
      have la := ll _ hma
      refine ⟨rfl, _, rfl, _, rfl, t, a, gt, _, 400, 4000, rfl, Same.seqT s ht, Same.seqT s ha, by omega, by omega, bt, bl _ hma, by decide, by decide, fun H1 s1 => ⟨rfl, _, rfl, ?_⟩⟩
      by_cases h1 : dot gt (ls.getD i []) = 0
      · exact iteNN (c := V.int (dot gt (ls.getD i [])) = V.int 0) (by rw [h1]) (ks _ (by rw [decide_eq_true h1]; rfl) s1)
      · exact iteNY (c := V.int (dot gt (ls.getD i [])) = V.int 0) (fun e => h1 (V.int.inj e)) ⟨_, rfl, kk _ _ (by rw [decide_eq_false h1]; rfl) s1 ⟨a, rfl, Same.seqT (same_del (s.trans s1) nD) ha⟩⟩
    · rintro D Hb cs nw hlen he
      rw [hus.1] at hlen he
      have hcs : VA K Hb cs (acrF ls gt) := by
        have h2 := VA.kept (K := K) (H := Hb) (gs := ls) (b := fun i => !decide (dot gt (ls.getD i []) = 0)) (ys := cs) (e := fun k => ls.getD k []) (E := fun _ _ => True) hlen fun j y ej => by
          obtain ⟨k, ek, a, e, h3⟩ := he j y ej
          exact ⟨k, ek, a, e, Same.seqT del_same h3⟩
        rw [filter_kept [] (fun l => !decide (dot gt l = 0)) ls] at h2
        exact h2
      have sb := nw.2.2
      have hDb := nw.2.1
      refine ⟨_, rfl, !cs.isEmpty, .inl ⟨_, SqL.of hDb, rfl⟩, ?_⟩
      unfold CutOk at ok
      cases hac : acrF ls gt with
      | nil =>
        rw [hac] at hcs ok
        have e0 : cs = [] := List.length_eq_zero_iff.mp hcs.1
        subst e0
        refine iteT ?_
        refine ⟨_, rfl, _, rfl, _, rfl, _, rfl, l, d, t, gt, xs, ys, fs, ds, n, rfl, Same.seqT sb ht, sb.seq hl, hxs.same sb, sb.seq hd, hys.same sb, n4, lt, lf, ld, bt, bf, bd, by omega, dl, ok, fun r zs H1 s1 hr1' nr hz => ⟨by show 2 ≤ 1000; decide, fun p H2 n2 => ?_⟩⟩
        have s12 := (sb.trans s1).trans n2.2.2
        refine k p m r us zs H2 s12 (SqT.of n2.2.1) (s12 _ _ hm0) (.inl rfl) ?_ (n2.2.2 _ _ hr1') (sb.free nr) ?_
        · unfold cutL
          rw [hac]
          exact hus.same s12
        · unfold cutF
          rw [hac]
          exact hz.same n2.2.2
      | cons a0 rest =>
        rw [hac] at hcs ok
        have hne : cs.isEmpty = false := by
          cases cs with
          | nil => exact absurd hcs.1 (by simp)
          | cons => rfl
        rw [hne]
        refine iteF ?_
        obtain ⟨x0, ex0⟩ : ∃ x0, cs[0]? = some x0 := ⟨_, List.getElem?_eq_getElem (by rw [hcs.1]; simp)⟩
        obtain ⟨a, rfl, ha⟩ := hcs.2 0 x0 ex0
        have ha0 : SqT K Hb a (a0.map V.int) := ha
        have hmem : a0 ∈ ls := by
          have : a0 ∈ acrF ls gt := by rw [hac]; exact List.mem_cons_self ..
          exact (List.mem_filter.mp this).1
        have l0 := ll _ hmem
        have b0 := bl _ hmem
        refine ⟨_, rfl, D, _, 0, _, rfl, rfl, SqL.of hDb, atI_nat ex0, ?_⟩
        apply withR (fun q H2 => Same Hb H2 ∧ SqT K H2 q ((upF a0 gt).map V.int))
        · intro k2
          refine ⟨_, rfl, _, rfl, t, a, gt, a0, 400, 4000, rfl, Same.seqT sb ht, ha0, by omega, by omega, bt, b0, by decide, by decide, fun H1 s1 => ⟨_, _, rfl, rfl, _, rfl, ?_⟩⟩
          by_cases hc : dot gt a0 < 0
          · rw [decide_eq_true hc]
            refine iteT ?_
            refine ⟨_, rfl, a, rfl, ⟨_, Same.seqT s1 ha0⟩, lcR (walk_tup (xs := a0.map V.int)) (n1 := by rw [List.length_map]; omega) (fun H' s' => Same.seqT s' (Same.seqT s1 ha0)) (fun i y _ => y = .int (-(a0.getD i 0))) (fun _ _ _ _ _ e => e) ?_ ?_⟩
            · rintro D2 acc i x Ha Hc K2 hi s nD hD ⟨rfl, ex⟩ kk
              obtain ⟨rfl, l1⟩ := getD_at ex
              exact ⟨rfl, _, rfl, _, rfl, kk _ _ (Same.refl _) rfl⟩
            · rintro D2 Hc zs nw2 hlen2 he2
              have ez : zs = (negF a0).map V.int := by
                rw [list_of hlen2 he2, List.length_map]
                unfold negF
                apply List.ext_getElem
                · simp
                · intro i h1 h2
                  simp only [List.length_map, List.length_range] at h1
                  simp [List.getD_eq_getElem?_getD, List.getElem?_eq_getElem h1]
              refine ⟨D2, _, rfl, .inl ⟨SqL.of nw2.2.1, fun q1 nq1 => ?_⟩⟩
              have hq : SqT K (upd Hc q1 (.tup zs)) q1 ((upF a0 gt).map V.int) := by
                unfold upF
                rw [if_pos hc, ← ez]
                exact SqT.of upd_same
              have hs : Same Hb (upd Hc q1 (.tup zs)) := (s1.trans nw2.2.2).trans (same_new nq1)
              generalize upd Hc q1 (.tup zs) = H3 at hq hs ⊢
              exact k2 q1 H3 ⟨hs, hq⟩
          · rw [decide_eq_false hc]
            refine iteF ?_
            have hq : SqT K H1 a ((upF a0 gt).map V.int) := by
              unfold upF
              rw [if_neg hc]
              exact Same.seqT s1 ha0
            clear ex0 ha ha0
            generalize a = q at hq ⊢
            exact k2 q H1 ⟨s1, hq⟩
        · rintro q H2 ⟨s2, hq⟩
          have s02 := sb.trans s2
          have lu : (upF a0 gt).length = n := by rw [up_len, l0]
          have bu : Bd 4000 (upF a0 gt) := up_bd b0
          refine ⟨_, rfl, m, rfl, ⟨_, s02.seq hm⟩, lcF (walk_list (xs := us)) (n1 := by rw [hus.1]; omega) (fun H' s' => s'.seq (s02.seq hm)) (fun i => !decide (ls.getD i [] = a0)) (fun i y H => ∃ b, y = .ref b ∧ SqT K H b ((levF (ls.getD i []) (upF a0 gt) gt).map V.int)) (fun i y H H' s' ⟨a, e, h2⟩ => ⟨a, e, Same.seqT s' h2⟩) ?_ ?_⟩
          · rintro D2 acc i x Ha Hc K2 S hi s nD hD ⟨rfl, ex⟩ kk ks
            obtain ⟨b, rfl, hb, hmb⟩ := (hus.same s02).at ex
            have lb := ll _ hmb
            have hb2 := Same.seqT s hb
            refine ⟨rfl, _, rfl, _, rfl, D, _, 0, _, rfl, rfl, SqL.of (s _ _ (s2 _ _ hDb)), atI_nat ex0, fD _, fD a0, dp_ints hb2, dp_ints (Same.seqT (s2.trans s) ha0), plain_f _, plain_f _, depth_f _, _, rfl, ?_⟩
            rw [eqv_f]
            by_cases h1 : ls.getD i [] = a0
            · exact iteNN h1 (ks _ (by rw [decide_eq_true h1]; rfl) (Same.refl _))
            · refine iteNY h1 ?_
              refine ⟨_, rfl, _, rfl, _, rfl, b, q, t, _, _, gt, rfl, hb2, Same.seqT s hq, Same.seqT (s02.trans s) ht, by omega, by omega, by omega, bl _ hmb, bu, bt, ok.1 _ hmb h1, fun b2 H4 s4 hb4 => ?_⟩
              refine kk _ _ (by rw [decide_eq_false h1]; rfl) s4 ⟨b2, rfl, ?_⟩
              exact seqT_nl (nl_del (s4 _ _ hD)) hb4
          · rintro D2 Hc cs2 nw2 hlen2 he2
            rw [hus.1] at hlen2 he2
            have hcs2 : VA K Hc cs2 (lvlL ls a0 gt) := by
              have h2 := VA.kept (K := K) (H := Hc) (gs := ls) (b := fun i => !decide (ls.getD i [] = a0)) (ys := cs2) (e := fun k => levF (ls.getD k []) (upF a0 gt) gt) (E := fun _ _ => True) hlen2 fun j y ej => by
                obtain ⟨k, ek, a, e, h3⟩ := he2 j y ej
                exact ⟨k, ek, a, e, Same.seqT del_same h3⟩
              have e : (kept (fun i => !decide (ls.getD i [] = a0)) ls.length).map (fun k => levF (ls.getD k []) (upF a0 gt) gt) = lvlL ls a0 gt := by
                unfold lvlL
                rw [← filter_kept [] (fun l => !decide (l = a0)) ls, List.map_map]
                rfl
              rw [e] at h2
              exact h2
            have s03 := s02.trans nw2.2.2
            refine ⟨_, rfl, _, rfl, l, rfl, ⟨_, s03.seq hl⟩, lcR (walk_list (xs := xs)) (n1 := by rw [hxs.1]; omega) (fun H' s' => s'.seq (s03.seq hl)) (fun i y H => ∃ b, y = .ref b ∧ SqT K H b ((levF (fs.getD i []) (upF a0 gt) gt).map V.int)) (fun i y H H' s' ⟨a, e, h2⟩ => ⟨a, e, Same.seqT s' h2⟩) ?_ ?_⟩
            · rintro D3 acc i x Ha Hd K2 hi s nD hD ⟨rfl, ex⟩ kk
              obtain ⟨b, rfl, hb, hmb⟩ := (hxs.same s03).at ex
              have lb := lf _ hmb
              refine ⟨rfl, _, rfl, _, rfl, _, rfl, b, q, t, _, _, gt, rfl, Same.seqT s hb, Same.seqT (nw2.2.2.trans s) hq, Same.seqT (s03.trans s) ht, by omega, by omega, by omega, bf _ hmb, bu, bt, ok.2 _ hmb, fun b2 H4 s4 hb4 => kk _ _ s4 ⟨b2, rfl, seqT_nl (nl_del (s4 _ _ hD)) hb4⟩⟩
            · rintro D3 Hd cs3 nw3 hlen3 he3
              rw [hxs.1] at hlen3
              refine ⟨_, rfl, by show 1 ≤ 1000; decide, fun p1 He n1 => ?_⟩
              refine ⟨D3, p1, cs3, _, rfl, rfl, n1.2.2 _ _ nw3.2.1, n1.2.1, by show cs3.length + 1 ≤ 1000; omega, fun p2 Hf n2 => ⟨by show 2 ≤ 1000; decide, fun r Hg n3 => ?_⟩⟩
              have sg := ((nw3.2.2.trans n1.2.2).trans n2.2.2).trans n3.2.2
              refine k r D2 p2 cs2 _ Hg (s03.trans sg) (SqT.of n3.2.1) (sg _ _ nw2.2.1) (.inr (s02.free nw2.1)) ?_ (n3.2.2 _ _ n2.2.1) (((s03.trans nw3.2.2).trans n1.2.2).free n2.1) ?_
              · unfold cutL
                rw [hac]
                exact hcs2.same sg
              · unfold cutF
                rw [hac]
                unfold lvlA
                refine VA.push ?_ (Same.seqT (nw2.2.2.trans sg) hq)
                refine ⟨by rw [hlen3, List.length_map], fun j y ej => ?_⟩
                obtain ⟨b, rfl, hb⟩ := he3 j y ej
                have hj : j < fs.length := by rw [← hlen3]; exact (List.getElem?_eq_some_iff.mp ej).1
                refine ⟨b, rfl, ?_⟩
                rw [List.getD_eq_getElem?_getD, List.getElem?_map, List.getElem?_eq_getElem hj]
                have hb2 := Same.seqT ((del_same (H := Hd) (D := D3)).trans ((n1.2.2.trans n2.2.2).trans n3.2.2)) hb
                rw [List.getD_eq_getElem?_getD, List.getElem?_eq_getElem hj] at hb2
                exact hb2
end
end Pg
set_option Elab.async false
set_option linter.all false
set_option maxRecDepth 100000
set_option maxHeartbeats 8000000
set_option exponentiation.threshold 10000
namespace Dd
def unitF (n a : Nat) : List Int := (List.range n).map fun o => if o = a then 1 else 0
def unitsF (n : Nat) : List (List Int) := (List.range n).map (unitF n)
structure St where
  ls : List (List Int)
  fs : List (List Int)
  ds : List (List Int)
def St.next (s : St) (t : List Int) : St := ⟨cutL s.ls t, cutF s.ls s.fs s.ds t, s.ds ++ [t]⟩
def stF (n : Nat) (ts : List (List Int)) (i : Nat) : St := (ts.take i).foldl St.next ⟨unitsF n, [], []⟩
/-- the tests, the one of points ahead -/
def allT (n : Nat) (ts : List (List Int)) : List (List Int) := unitF n (n - 1) :: ts
structure StOk (n : Nat) (s : St) : Prop where
  l4 : s.ls.length ≤ 4
  f9 : s.fs.length ≤ 900
  ll : Ln n s.ls
  lf : Ln n s.fs
  bl : Bds 4000 s.ls
  bf : Bds 4000 s.fs
structure ArrOk (n : Nat) (ts : List (List Int)) : Prop where
  lll : Ln n (stF n (allT n ts) (ts.length + 1)).ls
  ok : ∀ i, i < (allT n ts).length → StOk n (stF n (allT n ts) i)
  cut : ∀ i t, (allT n ts)[i]? = some t → CutOk (stF n (allT n ts) i).ls (stF n (allT n ts) i).fs (stF n (allT n ts) i).ds t
  lsz : (stF n (allT n ts) (ts.length + 1)).ls.length ≤ 1000
  fsz : (stF n (allT n ts) (ts.length + 1)).fs.length ≤ 5000
def arrF (n : Nat) (ts : List (List Int)) : List (List Int) := (stF n (allT n ts) (ts.length + 1)).fs ++ (stF n (allT n ts) (ts.length + 1)).ls ++ (stF n (allT n ts) (ts.length + 1)).ls.map negF
theorem st_succ {n : Nat} {ts : List (List Int)} {i : Nat} {t : List Int} (e : ts[i]? = some t) : stF n ts (i + 1) = (stF n ts i).next t := by
  unfold stF
  rw [List.take_add_one, e, List.foldl_append]
  rfl
theorem st_ds {n : Nat} {ts : List (List Int)} : ∀ i, i ≤ ts.length → (stF n ts i).ds = ts.take i
  | 0, _ => by simp [stF]
  | i + 1, h => by
    have e : ts[i]? = some ts[i] := List.getElem?_eq_getElem (by omega)
    rw [st_succ e, List.take_add_one, e]
    show (stF n ts i).ds ++ [ts[i]] = _
    rw [st_ds i (by omega)]
    rfl
theorem unit_len (n a : Nat) : (unitF n a).length = n := by simp [unitF]
end Dd
namespace Pg
open PySem PySem.Spec PyProof.Rows L2 Gd Rl Te Vd Fx RZ Dd StX
abbrev sArr : Stmt := top 20
def retV : Stmt → Expr
  | .Return (some e) _ => e
  | _ => .Name "" ⟨0, 0, 0, 0⟩
def binR : Expr → Expr
  | .BinOp _ _ r _ => r
  | e => e
theorem atI_neg {xs : List V} {j : Nat} {v : V} (hj : j < xs.length) (h : xs[xs.length - 1 - j]? = some v) : atI xs (-1 - (j : Int)) = some v := by
  unfold atI
  have e : ixN xs.length (-1 - (j : Int)) = some (xs.length - 1 - j) := by
    unfold ixN
    rw [if_neg (by omega), if_pos (by omega)]
    congr 1
    omega
  rw [e]
  exact h
def rCatW : R2 := fun x y H Q => ∃ l b xs zs, x = .ref l ∧ y = .ref b ∧ H l = some (.lst xs) ∧ H b = some (.lst zs) ∧ xs.length + zs.length ≤ 100000 ∧ ∀ p H2, New H p (.lst (xs ++ zs)) H2 → Q (.ref p) H2
theorem op_catW {X : Cx} : OpR X (binaryOp .Add) rCatW := by
  intro pins s σ H x y v u Q I rx ry h
  obtain ⟨l, b, xs, zs, e1, e2, h1, h2, z, q⟩ := h
  exact op_cat pins s σ H x y v u Q I rx ry ⟨l, b, xs, zs, e1, e2, h1, h2, Nat.le_of_lt (small5 z), fun p np => q p _ (.mk' np)⟩
def rTupOf (K : PySem.W.Frag) : List V → Hp → VK → Prop := fun xs H Q => ∃ p ys, xs = [.ref p] ∧ ((SqL K H p ys ∧ ∀ l, H l = none → Q (.ref l) (upd H l (.tup ys))) ∨ (SqT K H p ys ∧ Q (.ref p) H))
theorem VA.app {K : PySem.W.Frag} {H : Hp} {xs ys : List V} {gs hs : List (List Int)} (h1 : VA K H xs gs) (h2 : VA K H ys hs) : VA K H (xs ++ ys) (gs ++ hs) := by
  refine ⟨by rw [List.length_append, List.length_append, h1.1, h2.1], fun i x e => ?_⟩
  by_cases q : i < xs.length
  · rw [List.getElem?_append_left q] at e
    obtain ⟨b, rfl, hb⟩ := h1.2 i x e
    refine ⟨b, rfl, ?_⟩
    rw [List.getD_eq_getElem?_getD, List.getElem?_append_left (by rw [← h1.1]; exact q), ← List.getD_eq_getElem?_getD]
    exact hb
  · rw [List.getElem?_append_right (by omega)] at e
    obtain ⟨b, rfl, hb⟩ := h2.2 _ x e
    refine ⟨b, rfl, ?_⟩
    rw [List.getD_eq_getElem?_getD, List.getElem?_append_right (by rw [← h1.1]; omega), ← h1.1, ← List.getD_eq_getElem?_getD]
    exact hb
theorem VA.cons {K : PySem.W.Frag} {H : Hp} {b : Addr} {xs : List V} {g : List Int} {gs : List (List Int)} (hb : SqT K H b (g.map V.int)) (h : VA K H xs gs) : VA K H (.ref b :: xs) (g :: gs) := by
  refine ⟨by rw [List.length_cons, List.length_cons, h.1], fun i x e => ?_⟩
  cases i with
  | zero =>
    cases e
    exact ⟨b, rfl, hb⟩
  | succ i => exact h.2 i x e
theorem VA.nil {K : PySem.W.Frag} {H : Hp} : VA K H [] [] := ⟨rfl, fun i x e => by simp at e⟩
section
variable {P : Program} {w : World} {K : PySem.W.Frag} {mg : Str → Option Value} {base : Heap} {f : Addr} {fd : FuncData}
def spArr (K : PySem.W.Frag) : Sp := fun vs H Q _ => ∃ (a : Addr) (m : Nat) (xs : List V) (ts : List (List Int)), vs = [.ref a, .int m] ∧ SqT K H a xs ∧ VA K H xs ts ∧ 1 ≤ m ∧ m ≤ 3 ∧ Ln (m + 1) ts ∧ Bds 400 ts ∧ ts.length ≤ 900 ∧ ArrOk (m + 1) ts ∧
  ∀ r zs H', Same H H' → H' r = some (.lst zs) → VA K H' zs (arrF (m + 1) ts) → Q (.ref r) H'
abbrev nArr : List Str := ["tests", "many", "size", "lines", "found", "done", "test", "at", "other", "line", "number"]
theorem scArr : FnScope nArr ["tests", "many"] (defScope sArr) := ⟨rfl, rfl, rfl, by decide +kernel, rfl, by decide +kernel, by decide +kernel⟩
theorem ok_arr {fW fL fV fN fC fX : Addr} {dW dL dV dN dC dX : FuncData} (F : FnP K "arrows" sArr f fd) (M : Mo mg) (gg : mg "gcd" = some (.builtin "math.gcd")) (FW : FnP K "weighed" sWei fW dW) (gW : mg "weighed" = some (.ref fW)) (FL : FnP K "lowest" sLow fL dL) (gL : mg "lowest" = some (.ref fL))
    (FV : FnP K "_leveled" sLev fV dV) (gV : mg "_leveled" = some (.ref fV)) (FN : FnP K "_are_neighbours" sNb fN dN) (gN : mg "_are_neighbours" = some (.ref fN)) (FC : FnP K "_cut_arrows" sCa fC dC) (gC : mg "_cut_arrows" = some (.ref fC)) (FX : FnP K "_cut" sCut fX dX) (gX : mg "_cut" = some (.ref fX)) : FnOk P w K mg base CX0 5 f fd ["tests", "many"] (spArr K) := by
  have GX : FnOk P w K mg base CX0 4 fX dX ["lines", "found", "done", "test"] (spCut K) := ok_cut FX M gg FW gW FL gL FV gV FN gN FC gC
  have bX : Binds K dX ["lines", "found", "done", "test"] [] := FX.bindsN fun _ _ _ _ _ _ us hl => match us, hl with | [_, _, _, _], _ => rfl
  refine F.ok scArr (fun vs H Q E h => ?_) (fun cdv A outer s H vs Q E hr h => ?_)
  · obtain ⟨a, m, xs, ts, rfl, _⟩ := h
    rfl
  · obtain ⟨a, m, xs, ts, rfl, ha, hxs, m1, m3, lt, bt, tl, ok, k⟩ := h
    refine ⟨_, PSs.nox <| pss_cons (ps_set (i := 2) scArr.nd rfl (.inr rfl) (pe_op op_add (pv 1) pe_int))
      <| pss_cons (ps_setLc (i := 3) (own := [("at", 7)]) (g := gName 7) (tt := tYes) rfl scArr.nd rfl rfl (sw_true rfl rfl rfl (by decide +kernel)) (pi_range1 (by rfl) M.range (pa_cons (pv 2) pa_nil)) (blkOk_by (N := nArr) (sc := defScope sArr) (by decide +kernel)) (fun _ _ _ _ _ => pg_name (i := 7) scArr.nd rfl (Or.inr rfl)) (fun _ _ _ _ _ => pts_nil)
          (fun _ _ _ _ _ => pe_callTy (r := rTupOf K) call_tuple_of (by rfl) M.tuple (by decide +kernel) (pa_cons (pe_lc (own := [("other", 8)]) (g := gName 8) (tt := tYes) rfl scArr.nd (pi_range1 (by rfl) M.range (pa_cons (pv 2) pa_nil)) (blkOk_by (N := nArr) (sc := rlSc (lcSc (asgV ((defBody sArr).getD 1 (.Pass ⟨0, 0, 0, 0⟩)))) (defScope sArr)) (by decide +kernel)) (fun _ _ _ _ _ => pg_name (i := 8) scArr.nd rfl (Or.inl rfl)) (fun _ _ _ _ _ => pts_nil)
            (fun _ _ _ _ _ => pe_ifExp (pt_cmpR op_eq (pv 8) (pv 7) (nomark _)) pe_int pe_int)) pa_nil)))
      <| pss_cons (ps_set (i := 4) scArr.nd rfl (.inl rfl) (pe_lstR pa_nil))
      <| pss_cons (ps_set (i := 5) scArr.nd rfl (.inl rfl) (pe_lstR pa_nil))
      <| pss_cons (ps_for PassesOwn.never rfl (pi_list (pe_lstR (pa_cons (pe_ix (r := rIxL K) ix_list (pv 3) (pe_un un_neg pe_int) (fun _ _ => rfl)) (pa_star (pv 0) pa_nil)))) (pg_name (i := 6) scArr.nd rfl (.inl rfl))
          (pss_cons (ps_asg (pe_call GX hr (by rfl) gX FX.kp bX .nil pass0 (pa_cons (pv 3) (pa_cons (pv 4) (pa_cons (pv 5) (pa_cons (pv 6) pa_nil))))) (pg_tup (by rfl) (pgs_cons (pg_name (i := 3) scArr.nd rfl (.inl rfl)) (pgs_cons (pg_name (i := 4) scArr.nd rfl (.inl rfl)) pgs_nil))))
            (pss_one (ps_expr (pe_bm PySem.F.plainAttrs_list PySem.F.slot_list_append PySem.F.type_list_append mt_append (pv 5) (pa_cons (pv 6) pa_nil))))))
      <| pss_one (ps_ret (pe_op op_catW (pe_op op_catW (pv 4) (pv 3)) (pe_lc (own := [("line", 9)]) (g := gName 9) (tt := tYes) rfl scArr.nd (pi_list (pv 3)) (blkOk_by (N := nArr) (sc := defScope sArr) (by decide +kernel)) (fun _ _ _ _ _ => pg_name (i := 9) scArr.nd rfl (Or.inl rfl)) (fun _ _ _ _ _ => pts_nil)
          (fun _ _ _ _ _ => pe_callTy (r := rTupOf K) call_tuple_of (by rfl) M.tuple (by decide +kernel) (pa_cons (pe_lc (own := [("number", 10)]) (g := gName 10) (tt := tYes) (wi := iTup K (tVar 9)) rfl scArr.nd (pi_tup (pv 9)) (blkOk_by (N := nArr) (sc := rlSc (lcSc (binR (retV ((defBody sArr).getD 5 (.Pass ⟨0, 0, 0, 0⟩))))) (defScope sArr)) (by decide +kernel)) (fun _ _ _ _ _ => pg_name (i := 10) scArr.nd rfl (Or.inl rfl)) (fun _ _ _ _ _ => pts_nil)
            (fun _ _ _ _ _ => pe_un un_neg (pv 10))) pa_nil))))), ?_⟩
    have nn : ((m : Int) + 1).toNat = m + 1 := by omega
    refine ⟨_, rfl, _, _, rfl, rfl, ?_⟩
    refine ⟨_, rfl, _, rfl, by omega, by omega, lcR (walk_range (lo := 0) (n := ((m : Int) + 1).toNat)) (n1 := by omega) (fun _ _ => trivial) (fun i y H => ∃ b, y = .ref b ∧ SqT K H b ((unitF (m + 1) i).map V.int)) (fun i y H H' s' ⟨a, e, h2⟩ => ⟨a, e, Same.seqT s' h2⟩) ?_ ?_⟩
    · rintro D acc i x Ha Hb K2 hi s nD hD ⟨rfl, rfl⟩ kk
      refine ⟨rfl, _, rfl, _, rfl, by omega, by omega, lcR (walk_range (lo := 0) (n := ((m : Int) + 1).toNat)) (n1 := by omega) (fun _ _ => trivial) (fun o y _ => y = .int (if o = i then 1 else 0)) (fun _ _ _ _ _ e => e) ?_ ?_⟩
      · rintro D2 acc2 j x2 Ha2 Hb2 K3 hj s3 nD2 hD2 ⟨rfl, rfl⟩ kk2
        refine ⟨rfl, _, rfl, _, rfl, rfl, _, rfl, ?_⟩
        by_cases h1 : j = i
        · subst h1
          refine iteDY rfl ?_
          exact kk2 _ _ (Same.refl _) (by rw [if_pos rfl])
        · refine iteDN (fun e => h1 (by have := V.int.inj e; omega)) ?_
          exact kk2 _ _ (Same.refl _) (by rw [if_neg h1])
      · rintro D2 Hc zs nw hlen he
        have ez : zs = (unitF (m + 1) i).map V.int := by
          rw [list_of hlen he, nn]
          unfold unitF
          rw [List.map_map]
          apply List.map_congr_left
          intro o _
          rfl
        refine ⟨D2, _, rfl, .inl ⟨SqL.of nw.2.1, fun q nq => ?_⟩⟩
        have s4 := nw.2.2.trans (same_new (o := .tup zs) nq)
        exact kk _ _ s4 ⟨q, rfl, by rw [← ez]; exact seqT_nl (nl_del (s4 _ _ hD)) (SqT.of upd_same)⟩
    · rintro D Hb us0 nw hlen he
      rw [nn] at hlen
      have hus0 : VA K Hb us0 (unitsF (m + 1)) := by
        refine ⟨by rw [hlen]; simp [unitsF], fun i x e => ?_⟩
        obtain ⟨b, rfl, hb⟩ := he i x e
        have hi : i < m + 1 := by rw [← hlen]; exact (List.getElem?_eq_some_iff.mp e).1
        refine ⟨b, rfl, ?_⟩
        have e2 : (unitsF (m + 1)).getD i [] = unitF (m + 1) i := by
          unfold unitsF
          rw [List.getD_eq_getElem?_getD, List.getElem?_map, List.getElem?_range hi]
          rfl
        rw [e2]
        exact Same.seqT del_same hb
      have sb := nw.2.2
      refine ⟨by decide, fun p1 H1 n1 => ⟨by decide, fun p2 H2 n2 => ?_⟩⟩
      have s12 := n1.2.2.trans n2.2.2
      obtain ⟨x0, ex0⟩ : ∃ x0, us0[m]? = some x0 := ⟨_, List.getElem?_eq_getElem (by omega)⟩
      obtain ⟨b0, rfl, hb0⟩ := hus0.2 m x0 ex0
      have eu : (unitsF (m + 1)).getD m [] = unitF (m + 1) m := by
        unfold unitsF
        rw [List.getD_eq_getElem?_getD, List.getElem?_map, List.getElem?_range (by omega)]
        rfl
      rw [eu] at hb0
      refine ⟨_, rfl, _, rfl, D, us0, -1, _, rfl, rfl, SqL.of (s12 _ _ nw.2.1), atI_neg (j := 0) (by omega) (by rw [hlen]; exact ex0), ?_⟩
      have hlu : us0.length = m + 1 := hlen
      refine ⟨_, rfl, a, xs, rfl, .inl (Same.seqT (sb.trans s12) ha), ?_, fun p3 H3 n3 => ?_⟩
      · have := hxs.1
        simp only [List.length_cons, List.length_append, List.length_nil]
        omega
      have s03 := (sb.trans s12).trans n3.2.2
      have s33 := s12.trans n3.2.2
      have hp2 : H3 p2 = some (.lst []) := n3.2.2 _ _ n2.2.1
      have nH : H p2 = none := (sb.trans n1.2.2).free n2.1
      have hit : VA K H3 (.ref b0 :: (xs ++ [])) (allT (m + 1) ts) := by
        rw [List.append_nil]
        exact VA.cons (Same.seqT s33 hb0) (hxs.same s03)
      have p32 : p3 ≠ p2 := fun e => by
        have z := n3.1
        rw [e, n2.2.1] at z
        cases z
      refine ⟨p3, rfl, ⟨_, SqL.of n3.2.1⟩, for_list (K := K) (a := p3) (xs := .ref b0 :: (xs ++ [])) (fun i σ H2 => ∃ m' l' us ws ys x6, σ = [some (.ref a), some (.int m), some (.int ((m : Int) + 1)), some (.ref m'), some (.ref l'), some (.ref p2), x6, none, none, none, none] ∧
          (∀ b o, H3 b = some o → b ≠ p2 → H2 b = some o) ∧ H2 p2 = some (.lst ys) ∧ VA K H2 ys (stF (m + 1) (allT (m + 1) ts) i).ds ∧ H2 m' = some (.lst us) ∧ VA K H2 us (stF (m + 1) (allT (m + 1) ts) i).ls ∧ H2 l' = some (.lst ws) ∧ VA K H2 ws (stF (m + 1) (allT (m + 1) ts) i).fs ∧ m' ≠ p2 ∧ l' ≠ p2)
        ⟨D, p1, us0, [], [], none, rfl, fun b o e _ => e, hp2, VA.nil, s33 _ _ nw.2.1, hus0.same s33, n3.2.2 _ _ (n2.2.2 _ _ n1.2.1), VA.nil, fun e => ?_, fun e => ?_⟩ (fun i σ H2 _ ⟨_, _, _, _, _, _, _, bt, _⟩ => SqL.of (bt _ _ n3.2.1 p32)) ?_ ?_⟩
      · have z := n2.1
        rw [← e, n1.2.2 _ _ nw.2.1] at z
        cases z
      · have z := n2.1
        rw [← e, n1.2.1] at z
        cases z
      · rintro i y σ H4 hi ⟨m', l', us, ws, ys, x6, rfl, bu, hd, hys, hm', hus, hl', hws, mp, lp⟩
        obtain ⟨tr, rfl, htr, htm⟩ := hit.at hi
        have nl34 : Nl H3 H4 := fun b o e n => bu b o e fun q => by
          rw [q, hp2] at e
          cases e
          exact n _ rfl
        have hi2 : i < (allT (m + 1) ts).length := by rw [← hit.1]; exact (List.getElem?_eq_some_iff.mp hi).1
        have et : (allT (m + 1) ts)[i]? = some ((allT (m + 1) ts).getD i []) := by
          rw [List.getD_eq_getElem?_getD, List.getElem?_eq_getElem hi2]
          rfl
        have so := ok.ok i hi2
        have hds := st_ds (n := m + 1) (ts := allT (m + 1) ts) i (Nat.le_of_lt hi2)
        have lall : ∀ g ∈ allT (m + 1) ts, g.length = m + 1 := fun g hg => by
          rcases List.mem_cons.mp hg with rfl | hg
          · exact unit_len _ _
          · exact lt g hg
        have ball : ∀ g ∈ allT (m + 1) ts, Bd 400 g := fun g hg => by
          rcases List.mem_cons.mp hg with rfl | hg
          · intro z hz
            obtain ⟨o, _, rfl⟩ := List.mem_map.mp hz
            show (if o = m + 1 - 1 then (1 : Int) else 0).natAbs < _
            split <;> exact Nat.lt_of_lt_of_le (by decide) (Nat.pow_le_pow_right (n := 2) (i := 1) (j := 400) (by decide) (by decide))
          · exact bt g hg
        have dsm : ∀ g ∈ (stF (m + 1) (allT (m + 1) ts) i).ds, g ∈ allT (m + 1) ts := fun g hg => by
          rw [hds] at hg
          exact List.mem_of_mem_take hg
        refine ⟨_, rfl, _, rfl, _, rfl, _, rfl, m', l', p2, tr, _, us, ws, ys, _, _, _, m + 1, rfl, seqT_nl nl34 htr, hm', hus, hl', hws, SqL.of hd, hys, by omega, lall _ htm, so.ll, so.lf, fun g hg => lall g (dsm g hg), ball _ htm, so.bl, so.bf, fun g hg => ball g (dsm g hg), so.l4, so.f9, ?_, ok.cut i _ et, fun r m2 l2 us2 zs H5 s5 hr5 hm5 fm hus5 hl5 fl5 hzs => ?_⟩
        · rw [hds, List.length_take]
          have : (allT (m + 1) ts).length = ts.length + 1 := rfl
          omega
        refine ⟨r, _, rfl, hr5, rfl, _, _, rfl, _, _, rfl, rfl, ?_⟩
        have hd5 := s5 _ _ hd
        have hl := hys.1
        rw [hds, List.length_take] at hl
        have hal : (allT (m + 1) ts).length = ts.length + 1 := rfl
        refine ⟨_, rfl, .inl ⟨rfl, _, SqL.of hd5⟩, _, rfl, p2, ys, _, rfl, rfl, hd5, small5 (by omega), ?_⟩
        have nl5 := nl_upd (Y := ys ++ [V.ref tr]) hd5
        have m2p : m2 ≠ p2 := fun e => by
          rcases fm with q | q
          · exact mp (by rw [← q, e])
          · rw [e, hd] at q
            cases q
        have l2p : l2 ≠ p2 := fun e => by
          rw [e, hd] at fl5
          cases fl5
        have en := st_succ (n := m + 1) et
        refine ⟨m2, l2, us2, zs, ys ++ [.ref tr], _, rfl, fun b o e n => by rw [upd_ne n]; exact s5 _ _ (bu b o e n), upd_same, ?_, by rw [upd_ne m2p]; exact hm5, ?_, by rw [upd_ne l2p]; exact hl5, ?_, m2p, l2p⟩
        · rw [en]
          exact ((hys.same s5).push (Same.seqT s5 (seqT_nl nl34 htr))).nl nl5
        · rw [en]
          exact hus5.nl nl5
        · rw [en]
          exact hzs.nl nl5
      · rintro σ H4 ⟨m', l', us, ws, ys, x6, rfl, bu, hd, hys, hm', hus, hl', hws, mp, lp⟩
        have el : (V.ref b0 :: (xs ++ [])).length = ts.length + 1 := by rw [hit.1]; rfl
        rw [el] at hys hus hws
        have s04 : Same H H4 := fun b o e => bu b o (s03 b o e) fun q => by
          rw [q, nH] at e
          cases e
        have z1 := hus.1
        have z2 := hws.1
        have z3 := ok.lsz
        have z4 := ok.fsz
        have hll := ok.lll
        refine ⟨_, rfl, _, rfl, l', m', ws, us, rfl, rfl, hl', hm', by omega, fun p4 H5 n5 => ?_⟩
        refine ⟨_, rfl, m', rfl, ⟨_, SqL.of (n5.2.2 _ _ hm')⟩, lcR (walk_list (xs := us)) (n1 := by omega) (fun H' s' => SqL.of (s' _ _ (n5.2.2 _ _ hm'))) (fun i y H => ∃ b, y = .ref b ∧ SqT K H b ((negF ((stF (m + 1) (allT (m + 1) ts) (ts.length + 1)).ls.getD i [])).map V.int)) (fun i y H H' s' ⟨a, e, h2⟩ => ⟨a, e, Same.seqT s' h2⟩) ?_ ?_⟩
        · rintro D5 acc i x Ha Hd K2 hi s nD hD ⟨rfl, ex⟩ kk
          obtain ⟨b, rfl, hb, hmb⟩ := (hus.same n5.2.2).at ex
          have hb2 := Same.seqT s hb
          refine ⟨rfl, _, rfl, b, rfl, ⟨_, hb2⟩, lcW (walk_tup (xs := ((stF (m + 1) (allT (m + 1) ts) (ts.length + 1)).ls.getD i []).map V.int)) (n1 := ?_) (fun H' s' => Same.seqT s' hb2) (fun j y _ => y = .int (-(((stF (m + 1) (allT (m + 1) ts) (ts.length + 1)).ls.getD i []).getD j 0))) (fun _ _ _ _ _ e => e) ?_ ?_⟩
          · rw [List.length_map]
            have := hll _ hmb
            omega
          · rintro D6 acc6 j x6' Ha6 Hb6 K6 hj s6 nD6 hD6 ⟨rfl, ex6⟩ kk6
            obtain ⟨rfl, l6⟩ := getD_at ex6
            exact ⟨rfl, _, rfl, _, rfl, kk6 _ _ (Same.refl _) rfl⟩
          · rintro D6 He zs nw6 hlen6 he6
            have ez : zs = (negF ((stF (m + 1) (allT (m + 1) ts) (ts.length + 1)).ls.getD i [])).map V.int := by
              rw [list_of hlen6 he6, List.length_map]
              unfold negF
              apply List.ext_getElem
              · simp
              · intro i h1 h2
                simp only [List.length_map, List.length_range] at h1
                rw [List.getElem_map, List.getElem_range, List.getElem_map, List.getElem_map, List.getD_eq_getElem?_getD (l := (stF (m + 1) (allT (m + 1) ts) (ts.length + 1)).ls.getD _ []), List.getElem?_eq_getElem h1]
                rfl
            refine ⟨D6, _, rfl, .inl ⟨SqL.of nw6.2.1, fun q nq => ?_⟩⟩
            have s7 := nw6.2.2.trans (same_new (o := .tup zs) nq)
            exact kk _ _ s7 ⟨q, rfl, by rw [← ez]; exact seqT_nl (nl_del (s7 _ _ hD)) (SqT.of upd_same)⟩
        · rintro D5 Hd zs nw5 hlen5 he5
          refine ⟨p4, D5, _, _, rfl, rfl, nw5.2.2 _ _ n5.2.1, nw5.2.1, by rw [List.length_append]; omega, fun r H7 n7 => ?_⟩
          have s57 := n5.2.2.trans (nw5.2.2.trans n7.2.2)
          refine k r _ H7 (s04.trans s57) n7.2.1 ?_
          unfold arrF
          refine VA.app ((hws.app hus).same s57) ?_
          refine ⟨by rw [hlen5, List.length_map, hus.1], fun j y ej => ?_⟩
          obtain ⟨b, rfl, hb⟩ := he5 j y ej
          have hj : j < (stF (m + 1) (allT (m + 1) ts) (ts.length + 1)).ls.length := by rw [← hus.1, ← hlen5]; exact (List.getElem?_eq_some_iff.mp ej).1
          refine ⟨b, rfl, ?_⟩
          have hb2 := Same.seqT ((del_same (H := Hd) (D := D5)).trans n7.2.2) hb
          rw [List.getD_eq_getElem?_getD, List.getElem?_map, List.getElem?_eq_getElem hj]
          rw [List.getD_eq_getElem?_getD, List.getElem?_eq_getElem hj] at hb2
          exact hb2
end
end Pg
set_option Elab.async false
set_option linter.all false
set_option maxRecDepth 100000
set_option maxHeartbeats 8000000
set_option exponentiation.threshold 10000
namespace Dd
def lastI (g : List Int) : Int := g.getD (g.length - 1) 0
def reachF (fs : List (List Int)) : Bool := fs.any fun a => decide (0 < lastI a)
def endF (fs : List (List Int)) (f : List Int) : List (List Int) := fs.filter fun a => decide (lastI a = 0) && decide (dot f a < 0)
def valsF (fs : List (List Int)) (f : List Int) : List (List Int) := (fs.filter fun a => decide (0 < lastI a)).map fun a => [dot f a, lastI a]
def lessP (v b : List Int) : Bool := decide (v.getD 0 0 * b.getD 1 0 < b.getD 0 0 * v.getD 1 0)
def stepB (b v : List Int) : List Int := if lessP v b then v else b
theorem best_mem : ∀ (us vs : List (List Int)) (b : List Int), (∀ v ∈ us, v ∈ vs) → b ∈ vs → us.foldl stepB b ∈ vs
  | [], _, _, _, h => h
  | u :: us, vs, b, h1, h2 => best_mem us vs (stepB b u) (fun v hv => h1 v (List.mem_cons_of_mem _ hv)) (by
    unfold stepB
    split
    · exact h1 u (List.mem_cons_self ..)
    · exact h2)
def bestF (vs : List (List Int)) : List Int := vs.foldl stepB (vs.getD 0 [])
end Dd
namespace Pg
open PySem PySem.Spec PyProof.Rows L2 Gd Rl Te Vd Fx RZ Dd StX
abbrev sLat : Stmt := top 17
abbrev sRea : Stmt := top 18
theorem last_at {g : List Int} (h : 1 ≤ g.length) : atI (g.map V.int) (-1) = some (.int (lastI g)) := by
  refine atI_neg (j := 0) (by rw [List.length_map]; omega) ?_
  rw [List.length_map, List.getElem?_map, Nat.sub_zero]
  unfold lastI
  rw [List.getD_eq_getElem?_getD, List.getElem?_eq_getElem (show g.length - 1 < g.length by omega)]
  rfl
theorem gD_any (l : List (List Int)) (p : List Int → Bool) : ((List.range l.length).map fun i => p (l.getD i [])).any id = l.any p := by
  have e : ((List.range l.length).map fun i => p (l.getD i [])) = l.map p := by
    apply List.ext_getElem
    · simp
    · intro i h1 h2
      simp only [List.length_map, List.length_range] at h1
      simp [List.getD_eq_getElem?_getD, List.getElem?_eq_getElem h1]
  rw [e, List.any_map]
  rfl
section
variable {P : Program} {w : World} {K : PySem.W.Frag} {mg : Str → Option Value} {base : Heap} {f : Addr} {fd : FuncData}
def spRea (K : PySem.W.Frag) : Sp := fun vs H Q _ => ∃ (l : Addr) (xs : List V) (fs : List (List Int)), vs = [.ref l] ∧ SqL K H l xs ∧ VA K H xs fs ∧ (∀ g ∈ fs, 1 ≤ g.length) ∧ fs.length ≤ 100000 ∧ ∀ H', Same H H' → Q (.bl (reachF fs)) H'
abbrev nRea : List Str := ["found", "arrow"]
theorem scRea : FnScope nRea ["found"] (defScope sRea) := ⟨rfl, rfl, rfl, by decide +kernel, rfl, by decide +kernel, by decide +kernel⟩
theorem ok_rea (F : FnP K "reach_points" sRea f fd) (M : Mo mg) : FnOk P w K mg base CX0 1 f fd ["found"] (spRea K) := by
  refine F.ok scRea (fun vs H Q E h => ?_) (fun cdv A outer s H vs Q E hr h => ?_)
  · obtain ⟨l, xs, fs, rfl, _⟩ := h
    rfl
  · obtain ⟨l, xs, fs, rfl, hl, hxs, h1, fl, k⟩ := h
    refine ⟨_, PSs.nox <| pss_one (ps_ret (pe_callB (cr_any rfl) (by rfl) M.any (by decide +kernel) (pa_cons (pe_lc (own := [("arrow", 1)]) (g := gName 1) (tt := tYes) rfl scRea.nd (pi_list (pv 0)) (blkOk_by (N := nRea) (sc := defScope sRea) (by decide +kernel)) (fun _ _ _ _ _ => pg_name (i := 1) scRea.nd rfl (Or.inl rfl)) (fun _ _ _ _ _ => pts_nil)
        (fun _ _ _ _ _ => pe_cmpR op_gt (pe_ix (r := rIxT K) ix_tup (pv 1) (pe_un un_neg pe_int) (fun _ _ => rfl)) pe_int (nomark _))) pa_nil))), ?_⟩
    refine ⟨_, rfl, l, rfl, ⟨_, hl⟩, lcW (walk_list (xs := xs)) (n1 := by rw [hxs.1]; exact fl) (fun H' s' => s'.seq hl) (fun i y _ => y = .bl (decide (0 < lastI (fs.getD i [])))) (fun _ _ _ _ _ e => e) ?_ ?_⟩
    · rintro D acc i x Ha Hb K2 hi s nD hD ⟨rfl, ex⟩ kk
      obtain ⟨a, rfl, ha, hm⟩ := hxs.at ex
      exact ⟨rfl, _, rfl, _, rfl, a, _, -1, _, rfl, rfl, Same.seqT s ha, last_at (h1 _ hm), _, _, rfl, rfl, kk _ _ (Same.refl _) rfl⟩
    · rintro D Hb ys nw hlen he
      have ey : ys = ((List.range fs.length).map fun i => decide (0 < lastI (fs.getD i []))).map V.bl := by
        rw [List.map_map]
        exact list_of (by rw [hlen, hxs.1]) he
      refine ⟨D, _, rfl, by rw [← ey]; exact SqL.of nw.2.1, ?_⟩
      rw [gD_any fs (fun a => decide (0 < lastI a))]
      exact k Hb nw.2.2
def spLat (K : PySem.W.Frag) : Sp := fun vs H Q _ => ∃ (l a : Addr) (xs : List V) (fs : List (List Int)) (g : List Int) (n : Nat), vs = [.ref l, .ref a] ∧ SqL K H l xs ∧ VA K H xs fs ∧ SqT K H a (g.map V.int) ∧ 1 ≤ n ∧ n ≤ 4 ∧ Ln n fs ∧ g.length = n ∧ Bds 8600 fs ∧ Bd 400 g ∧ fs.length ≤ 100000 ∧
  (reachF fs = false → ∀ H', Same H H' → Q .non H') ∧ (reachF fs = true → endF fs g ≠ [] → ∀ H', Same H H' → Q (.str "endless") H') ∧ (reachF fs = true → endF fs g = [] → ∀ b H', Same H H' → SqT K H' b ((lowF (bestF (valsF fs g))).map V.int) → Q (.ref b) H')
abbrev nLat : List Str := ["found", "form", "values", "best", "value", "arrow"]
theorem scLat : FnScope nLat ["found", "form"] (defScope sLat) := ⟨rfl, rfl, rfl, by decide +kernel, rfl, by decide +kernel, by decide +kernel⟩
theorem ok_lat {fW fL fR : Addr} {dW dL dR : FuncData} (F : FnP K "least_at" sLat f fd) (M : Mo mg) (gg : mg "gcd" = some (.builtin "math.gcd")) (FW : FnP K "weighed" sWei fW dW) (gW : mg "weighed" = some (.ref fW)) (FL : FnP K "lowest" sLow fL dL) (gL : mg "lowest" = some (.ref fL)) (FR : FnP K "reach_points" sRea fR dR) (gR : mg "reach_points" = some (.ref fR)) : FnOk P w K mg base CX0 2 f fd ["found", "form"] (spLat K) := by
  have GW : FnOk P w K mg base CX0 1 fW dW ["form", "numbers"] (spWei K) := ok_wei FW M
  have bW : Binds K dW ["form", "numbers"] [] := FW.bindsN fun _ _ _ _ _ _ us hl => match us, hl with | [_, _], _ => rfl
  have GL : FnOk P w K mg base CX0 1 fL dL ["numbers"] (spLow K) := ok_low FL M gg
  have bL : Binds K dL ["numbers"] [] := FL.bindsN fun _ _ _ _ _ _ us hl => match us, hl with | [_], _ => rfl
  have GR : FnOk P w K mg base CX0 1 fR dR ["found"] (spRea K) := ok_rea FR M
  have bR : Binds K dR ["found"] [] := FR.bindsN fun _ _ _ _ _ _ us hl => match us, hl with | [_], _ => rfl
  refine F.ok scLat (fun vs H Q E h => ?_) (fun cdv A outer s H vs Q E hr h => ?_)
  · obtain ⟨l, a, xs, fs, g, n, rfl, _⟩ := h
    rfl
  · obtain ⟨l, a, xs, fs, g, n, rfl, hl, hxs, ha, n1, n4, lf, lg, bf, bg, fl, kN, kE, kL⟩ := h
    refine ⟨_, PSs.nox <| pss_cons (ps_if (pt_not (pt_val (pe_call GR hr (by rfl) gR FR.kp bR .nil pass0 (pa_cons (pv 0) pa_nil)))) (pss_one (ps_ret pe_non)) pss_nil)
      <| pss_cons (ps_if (pt_truth (pe_lc (own := [("arrow", 5)]) (g := gName 5) rfl scLat.nd (pi_list (pv 0)) (blkOk_by (N := nLat) (sc := defScope sLat) (by decide +kernel)) (fun _ _ _ _ _ => pg_name (i := 5) scLat.nd rfl (Or.inl rfl))
          (fun _ _ _ _ _ => pts_one (PW.pt (pw_and (pt_cmpR op_eq (pe_ix (r := rIxT K) ix_tup (pv 5) (pe_un un_neg pe_int) (fun _ _ => rfl)) pe_int (nomark _)) (pw_and1 (pt_cmpR op_lt (pe_call GW hr (by rfl) gW FW.kp bW .nil pass0 (pa_cons (pv 1) (pa_cons (pv 5) pa_nil))) pe_int (nomark _))))))
          (fun _ _ _ _ _ => pv 5)) (by intro _; rfl)) (pss_one (ps_ret pe_str)) pss_nil)
      <| pss_cons (ps_setLc (i := 2) (own := [("arrow", 5)]) (g := gName 5) rfl scLat.nd rfl rfl (sw_true rfl rfl rfl (by decide +kernel)) (pi_list (pv 0)) (blkOk_by (N := nLat) (sc := defScope sLat) (by decide +kernel)) (fun _ _ _ _ _ => pg_name (i := 5) scLat.nd rfl (Or.inl rfl))
          (fun _ _ _ _ _ => pts_one (pt_cmpR op_gt (pe_ix (r := rIxT K) ix_tup (pv 5) (pe_un un_neg pe_int) (fun _ _ => rfl)) pe_int (nomark _)))
          (fun _ _ _ _ _ => pe_tupR (pa_cons (pe_call GW hr (by rfl) gW FW.kp bW .nil pass0 (pa_cons (pv 1) (pa_cons (pv 5) pa_nil))) (pa_cons (pe_ix (r := rIxT K) ix_tup (pv 5) (pe_un un_neg pe_int) (fun _ _ => rfl)) pa_nil))))
      <| pss_cons (ps_set (i := 3) scLat.nd rfl (.inl rfl) (pe_ix (r := rIxL K) ix_list (pv 2) pe_int (fun _ _ => rfl)))
      <| pss_cons (ps_for PassesOwn.never rfl (pi_list (pv 2)) (pg_name (i := 4) scLat.nd rfl (.inl rfl))
          (pss_one (ps_if (pt_cmpR op_lt (pe_op mulI (pe_ix (r := rIxT K) ix_tup (pv 4) pe_int (fun _ _ => rfl)) (pe_ix (r := rIxT K) ix_tup (pv 3) pe_int (fun _ _ => rfl))) (pe_op mulI (pe_ix (r := rIxT K) ix_tup (pv 3) pe_int (fun _ _ => rfl)) (pe_ix (r := rIxT K) ix_tup (pv 4) pe_int (fun _ _ => rfl))) (nomark _))
            (pss_one (ps_set (i := 3) scLat.nd rfl (.inl rfl) (pv 4))) pss_nil)))
      <| pss_one (ps_ret (pe_call GL hr (by rfl) gL FL.kp bL .nil pass0 (pa_cons (pv 3) pa_nil))), ?_⟩
    refine ⟨_, rfl, l, xs, fs, rfl, hl, hxs, fun g hg => by rw [lf g hg]; exact n1, fl, fun H1 s1 => ⟨_, rfl, ?_⟩⟩
    cases hre : reachF fs with
    | false => exact iteT (kN hre H1 s1)
    | true =>
      refine iteF ?_
      refine ⟨_, rfl, l, rfl, ⟨_, s1.seq hl⟩, lcF (walk_list (xs := xs)) (n1 := by rw [hxs.1]; exact fl) (fun H' s' => s'.seq (s1.seq hl)) (fun i => decide (lastI (fs.getD i []) = 0) && decide (dot g (fs.getD i []) < 0)) (fun i y H => ∃ a, y = .ref a ∧ SqT K H a ((fs.getD i []).map V.int)) (fun i y H H' s' ⟨a, e, h2⟩ => ⟨a, e, Same.seqT s' h2⟩) ?_ ?_⟩
      · rintro D acc i x Ha Hb K2 S hi s nD hD ⟨rfl, ex⟩ kk ks
        obtain ⟨b, rfl, hb, hm⟩ := (hxs.same s1).at ex
        have lb := lf _ hm
        refine ⟨rfl, _, rfl, _, rfl, b, _, -1, _, rfl, rfl, Same.seqT s hb, last_at (by omega), rfl, _, rfl, ?_⟩
        by_cases h1 : lastI (fs.getD i []) = 0
        · refine iteDY (c := V.int (lastI (fs.getD i [])) = V.int 0) (by rw [h1]) ?_
          refine ⟨_, rfl, _, rfl, a, b, g, _, 400, 8600, rfl, Same.seqT (s1.trans s) ha, Same.seqT s hb, by omega, by omega, bg, bf _ hm, by decide, by decide, fun H2 s2 => ⟨_, _, rfl, rfl, _, rfl, ?_⟩⟩
          by_cases h2 : dot g (fs.getD i []) < 0
          · exact iteDY h2 ⟨_, rfl, kk _ _ (by rw [decide_eq_true h1, decide_eq_true h2]; rfl) s2 ⟨b, rfl, seqT_nl (nl_del (s2 _ _ hD)) (Same.seqT (s.trans s2) hb)⟩⟩
          · exact iteDN h2 (ks _ (by rw [decide_eq_false h2, Bool.and_false]) s2)
        · exact iteDN (c := V.int (lastI (fs.getD i [])) = V.int 0) (fun e => h1 (V.int.inj e)) (ks _ (by rw [decide_eq_false h1, Bool.false_and]) (Same.refl _))
      · rintro D Hb cs nw hlen he
        rw [hxs.1] at hlen
        have hel : cs.length = (endF fs g).length := by
          rw [hlen]
          unfold endF
          rw [← filter_kept [] (fun a => decide (lastI a = 0) && decide (dot g a < 0)) fs, List.length_map]
        have sb := s1.trans nw.2.2
        refine ⟨_, .inl ⟨_, SqL.of nw.2.1, rfl⟩, ?_⟩
        cases cs with
        | cons c cr =>
          refine iteT (kE hre ?_ Hb sb)
          intro e
          rw [e] at hel
          cases hel
        | nil =>
          have hee : endF fs g = [] := List.length_eq_zero_iff.mp hel.symm
          refine iteF ?_
          refine ⟨_, rfl, l, rfl, ⟨_, sb.seq hl⟩, lcF (walk_list (xs := xs)) (n1 := by rw [hxs.1]; exact fl) (fun H' s' => s'.seq (sb.seq hl)) (fun i => decide (0 < lastI (fs.getD i []))) (fun i y H => ∃ b, y = .ref b ∧ SqT K H b ([dot g (fs.getD i []), lastI (fs.getD i [])].map V.int)) (fun i y H H' s' ⟨a, e, h2⟩ => ⟨a, e, Same.seqT s' h2⟩) ?_ ?_⟩
          · rintro D2 acc i x Ha Hc K2 S hi s nD hD ⟨rfl, ex⟩ kk ks
            obtain ⟨b, rfl, hb, hm⟩ := (hxs.same sb).at ex
            have lb := lf _ hm
            refine ⟨rfl, _, rfl, _, rfl, b, _, -1, _, rfl, rfl, Same.seqT s hb, last_at (by omega), _, _, rfl, rfl, _, rfl, ?_⟩
            by_cases h1 : 0 < lastI (fs.getD i [])
            · refine iteDY h1 ?_
              refine ⟨_, rfl, _, rfl, a, b, g, _, 400, 8600, rfl, Same.seqT (sb.trans s) ha, Same.seqT s hb, by omega, by omega, bg, bf _ hm, by decide, by decide, fun H2 s2 => ?_⟩
              refine ⟨_, rfl, _, rfl, b, _, -1, _, rfl, rfl, Same.seqT (s.trans s2) hb, last_at (by omega), by show 2 ≤ 1000; decide, fun p H3 n3 => ?_⟩
              have s23 := s2.trans n3.2.2
              exact kk _ _ (decide_eq_true h1) s23 ⟨p, rfl, seqT_nl (nl_del (s23 _ _ hD)) (SqT.of n3.2.1)⟩
            · exact iteDN h1 (ks _ (decide_eq_false h1) (Same.refl _))
          · rintro D2 Hc vs nw2 hlen2 he2
            rw [hxs.1] at hlen2 he2
            have hvs : VA K Hc vs (valsF fs g) := by
              have h2 := VA.kept (K := K) (H := Hc) (gs := fs) (b := fun i => decide (0 < lastI (fs.getD i []))) (ys := vs) (e := fun k => [dot g (fs.getD k []), lastI (fs.getD k [])]) (E := fun _ _ => True) hlen2 fun j y ej => by
                obtain ⟨k, ek, a, e, h3⟩ := he2 j y ej
                exact ⟨k, ek, a, e, Same.seqT del_same h3⟩
              have e : (kept (fun i => decide (0 < lastI (fs.getD i []))) fs.length).map (fun k => [dot g (fs.getD k []), lastI (fs.getD k [])]) = valsF fs g := by
                unfold valsF
                rw [← filter_kept [] (fun a => decide (0 < lastI a)) fs, List.map_map]
                rfl
              rw [e] at h2
              exact h2
            have vm : ∀ v ∈ valsF fs g, ∃ p q : Int, v = [p, q] ∧ p.natAbs < 2 ^ 9003 ∧ q.natAbs < 2 ^ 8600 ∧ 0 < q := fun v hv => by
              obtain ⟨c, hc, rfl⟩ := List.mem_map.mp hv
              obtain ⟨hc1, hc2⟩ := List.mem_filter.mp hc
              have lc := lf _ hc1
              refine ⟨_, _, rfl, dot_bd bg (bf _ hc1) (by omega) (by omega), ?_, of_decide_eq_true hc2⟩
              exact bf _ hc1 _ (getD_mem (by omega))
            have vne : 0 < (valsF fs g).length := by
              unfold reachF at hre
              obtain ⟨c, hc1, hc2⟩ := List.any_eq_true.mp hre
              unfold valsF
              rw [List.length_map]
              exact List.length_pos_of_mem (List.mem_filter.mpr ⟨hc1, hc2⟩)
            have sc := sb.trans nw2.2.2
            obtain ⟨x0, ex0⟩ : ∃ x0, vs[0]? = some x0 := ⟨_, List.getElem?_eq_getElem (by rw [hvs.1]; exact vne)⟩
            obtain ⟨b0, rfl, hb0, hm0⟩ := hvs.at ex0
            refine ⟨_, rfl, D2, vs, 0, _, rfl, rfl, SqL.of nw2.2.1, atI_nat ex0, ?_⟩
            refine ⟨_, rfl, D2, rfl, ⟨_, SqL.of nw2.2.1⟩, for_list (K := K) (a := D2) (xs := vs) (fun i σ H2 => ∃ bb x4, σ = [some (.ref l), some (.ref a), some (.ref D2), some (.ref bb), x4, none] ∧ Same Hc H2 ∧ SqT K H2 bb ((((valsF fs g).take i).foldl stepB ((valsF fs g).getD 0 [])).map V.int)) ⟨b0, none, rfl, Same.refl _, hb0⟩ (fun i σ H2 _ ⟨_, _, _, s2, _⟩ => SqL.of (s2 _ _ nw2.2.1)) ?_ ?_⟩
            · rintro i y σ H2 hi ⟨bb, x4, rfl, s2, hbb⟩
              obtain ⟨vb, rfl, hvb, hvm⟩ := hvs.at hi
              have hil : i < (valsF fs g).length := by rw [← hvs.1]; exact (List.getElem?_eq_some_iff.mp hi).1
              obtain ⟨p, q, ev, bp, bq, q0⟩ := vm _ hvm
              obtain ⟨p2, q2, eb, bp2, bq2, q02⟩ := vm _ (best_mem ((valsF fs g).take i) (valsF fs g) _ (fun v hv => List.mem_of_mem_take hv) hm0)
              have en : ((valsF fs g).take (i + 1)).foldl stepB ((valsF fs g).getD 0 []) = stepB (((valsF fs g).take i).foldl stepB ((valsF fs g).getD 0 [])) ((valsF fs g).getD i []) := by
                rw [List.take_add_one, List.getElem?_eq_getElem hil, List.foldl_append, List.getD_eq_getElem?_getD (l := valsF fs g) (i := i), List.getElem?_eq_getElem hil]
                rfl
              rw [ev] at hvb en
              rw [eb] at hbb en
              have hv2 := Same.seqT s2 hvb
              refine ⟨_, rfl, vb, _, 0, _, rfl, rfl, hv2, rfl, _, rfl, bb, _, 1, _, rfl, rfl, hbb, rfl, _, _, rfl, rfl, mul_ok bp bq2 (by decide) (by decide), _, rfl, bb, _, 0, _, rfl, rfl, hbb, rfl, _, rfl, vb, _, 1, _, rfl, rfl, hv2, rfl, _, _, rfl, rfl, mul_ok bp2 bq (by decide) (by decide), _, _, rfl, rfl, _, rfl, ?_⟩
              by_cases h1 : p * q2 < p2 * q
              · refine iteDY h1 ⟨_, rfl, vb, _, rfl, s2, ?_⟩
                rw [en]
                have e2 : stepB [p2, q2] [p, q] = [p, q] := if_pos (decide_eq_true h1)
                rw [e2]
                exact hv2
              · refine iteDN h1 ⟨bb, _, rfl, s2, ?_⟩
                rw [en]
                have e2 : stepB [p2, q2] [p, q] = [p2, q2] := if_neg (by show ¬ decide (p * q2 < p2 * q) = true; rw [decide_eq_false h1]; exact Bool.false_ne_true)
                rw [e2]
                exact hbb
            · rintro σ H2 ⟨bb, x4, rfl, s2, hbb⟩
              rw [hvs.1, List.take_length] at hbb
              obtain ⟨p2, q2, eb, bp2, bq2, q02⟩ := vm _ (best_mem (valsF fs g) (valsF fs g) _ (fun v hv => hv) hm0)
              have hbf : bestF (valsF fs g) = [p2, q2] := eb
              refine ⟨_, rfl, bb, bestF (valsF fs g), rfl, .inr hbb, ?_, ?_, ?_, fun b H3 s3 hb3 => kL hre hee b H3 ((sc.trans s2).trans s3) hb3⟩
              · rw [hbf]
                show (2 : Nat) ≤ 1000
                decide
              · rw [hbf]
                exact gcd_pos (z := q2) (by simp) (by omega)
              · rw [hbf]
                exact Nat.lt_of_le_of_lt (gcd_le (z := q2) (by simp) (by omega)) (Nat.lt_of_lt_of_le bq2 (Nat.pow_le_pow_right (by decide) (by decide)))
end
end Pg
set_option Elab.async false
set_option linter.all false
set_option maxRecDepth 100000
set_option maxHeartbeats 8000000
set_option exponentiation.threshold 10000
namespace Pg
open PySem PySem.Spec PyProof.Rows L2 Gd Rl Te Vd Fx Hy RZ Dd StX
abbrev sLst : Stmt := top 14
theorem vp_va {K : PySem.W.Frag} {H : Hp} {xs : List V} {ts : List (List Int)} (h : VpAll K H xs (ts.map fD)) : VA K H xs ts := by
  have l := vp_len h
  rw [List.length_map] at l
  refine ⟨l, fun i x e => ?_⟩
  obtain ⟨d, ed, hd⟩ := vp_at h e
  have hi : i < ts.length := by rw [← l]; exact (List.getElem?_eq_some_iff.mp e).1
  rw [List.getElem?_map, List.getElem?_eq_getElem hi] at ed
  cases ed
  obtain ⟨a, rfl, ha⟩ := vp_form hd
  refine ⟨a, rfl, ?_⟩
  rw [List.getD_eq_getElem?_getD, List.getElem?_eq_getElem hi]
  exact ha
/-- what a right question is answered from -/
structure LstOk (n : Nat) (ts : List (List Int)) (g : List Int) : Prop where
  n2 : 2 ≤ n
  n4 : n ≤ 4
  lt : Ln n ts
  lg : g.length = n
  bt : Bds 400 ts
  bg : Bd 400 g
  tl : ts.length ≤ 900
  ok : ArrOk n ts
  la : Ln n (arrF n ts)
  ba : Bds 8600 (arrF n ts)
  al : (arrF n ts).length ≤ 100000
theorem with0 {G R : Prop} (h : R → G) (hR : R) : G := h hR
section
variable {P : Program} {w : World} {K : PySem.W.Frag} {mg : Str → Option Value} {base : Heap} {f : Addr} {fd : FuncData}
/-- the answer: none, endless, or a pair in its least form -/
def LstAns (K : PySem.W.Frag) (H : Hp) (n : Nat) (ts : List (List Int)) (g : List Int) (Q : VK) : Prop :=
  (reachF (arrF n ts) = false → ∀ H', Same H H' → Q .non H') ∧ (reachF (arrF n ts) = true → endF (arrF n ts) g ≠ [] → ∀ H', Same H H' → Q (.str "endless") H') ∧ (reachF (arrF n ts) = true → endF (arrF n ts) g = [] → ∀ b H', Same H H' → SqT K H' b ((lowF (bestF (valsF (arrF n ts) g))).map V.int) → Q (.ref b) H')
def spLst (K : PySem.W.Frag) (CN CF : Addr) : Sp := fun vs H Q E => ∃ (v u : V) (d e : PyData), vs = [v, u] ∧ Vp K H v d ∧ Vp K H u e ∧ Wd3 d ∧ Wd2 e ∧
  (((∀ ds, d ≠ .tuple ds) ∧ OutV E H CN "index" .non) ∨ (∃ ds i, d = .tuple ds ∧ i < ds.length ∧ (∀ j, j < i → badT ds j = false) ∧ badT ds i = true ∧ OutV E H CN "index" (.int (i : Nat))) ∨
   (∃ ds, d = .tuple ds ∧ (∀ i, i < ds.length → badT ds i = false) ∧ (fmB e = false ∨ (ds ≠ [] ∧ fmB e = true ∧ lenD e ≠ lenD (ds.getD 0 .none))) ∧ OutV E H CF "given" u) ∨
   ∃ n ts g, d = .tuple (ts.map fD) ∧ e = fD g ∧ (∀ i, i < ts.length → badT (ts.map fD) i = false) ∧ LstOk n ts g ∧ LstAns K H n ts g Q)
theorem scLst : FnScope ["tests", "form"] ["tests", "form"] (defScope sLst) := ⟨rfl, rfl, rfl, by decide +kernel, rfl, by decide +kernel, by decide +kernel⟩
theorem out_sm {E : XK} {H H1 : Hp} {C : Addr} {f : Str} {v : V} (s : Same H H1) (h : OutV E H C f v) : OutV E H1 C f v := fun H2 dd s2 n => h H2 dd (s.trans s2) n
theorem ok_lst {fI fM fA fK fW fL fV fN fC fX fR fT fP CN WN fE CF WF fG : Addr} {dI dM dA dK dW dL dV dN dC dX dR dT dP : FuncData} (F : FnP K "least" sLst f fd) (M : Mo mg) (gg : mg "gcd" = some (.builtin "math.gcd"))
    (FI : FnP K "is_integer" sInt fI dI) (gI : mg "is_integer" = some (.ref fI)) (FM : FnP K "are_integers" sInts fM dM) (gM : mg "are_integers" = some (.ref fM)) (FA : FnP K "_is_any_form" sAnyF fA dA) (gA : mg "_is_any_form" = some (.ref fA)) (FK : FnP K "_check_tests" sChk fK dK) (gK : mg "_check_tests" = some (.ref fK))
    (FW : FnP K "weighed" sWei fW dW) (gW : mg "weighed" = some (.ref fW)) (FL : FnP K "lowest" sLow fL dL) (gL : mg "lowest" = some (.ref fL)) (FV : FnP K "_leveled" sLev fV dV) (gV : mg "_leveled" = some (.ref fV)) (FN : FnP K "_are_neighbours" sNb fN dN) (gN : mg "_are_neighbours" = some (.ref fN))
    (FC : FnP K "_cut_arrows" sCa fC dC) (gC : mg "_cut_arrows" = some (.ref fC)) (FX : FnP K "_cut" sCut fX dX) (gX : mg "_cut" = some (.ref fX)) (FR : FnP K "arrows" sArr fR dR) (gR : mg "arrows" = some (.ref fR)) (FT : FnP K "least_at" sLat fT dT) (gT : mg "least_at" = some (.ref fT)) (FP : FnP K "reach_points" sRea fP dP) (gP : mg "reach_points" = some (.ref fP))
    (XE : ErrK P K mg "InvalidForms" CN WN fE "index") (XF : ErrK P K mg "InvalidForm" CF WF fG "given") : FnOk P w K mg base (L2.CX P w) 6 f fd ["tests", "form"] (spLst K CN CF) := by
  have GA : FnOk P w K mg base CX0 3 fA dA ["value"] (spAF K) := ok_anyf FA M FI gI FM gM
  have bA : Binds K dA ["value"] [] := FA.bindsN fun _ _ _ _ _ _ us hl => match us, hl with | [_], _ => rfl
  have GK : FnOk P w K mg base (L2.CX P w) 4 fK dK ["tests"] (spCT K CN) := ok_chk FK M FI gI FM gM FA gA XE
  have bK : Binds K dK ["tests"] [] := FK.bindsN fun _ _ _ _ _ _ us hl => match us, hl with | [_], _ => rfl
  have GR : FnOk P w K mg base CX0 5 fR dR ["tests", "many"] (spArr K) := ok_arr FR M gg FW gW FL gL FV gV FN gN FC gC FX gX
  have bR : Binds K dR ["tests", "many"] [] := FR.bindsN fun _ _ _ _ _ _ us hl => match us, hl with | [_, _], _ => rfl
  have GT : FnOk P w K mg base CX0 2 fT dT ["found", "form"] (spLat K) := ok_lat FT M gg FW gW FL gL FP gP
  have bT : Binds K dT ["found", "form"] [] := FT.bindsN fun _ _ _ _ _ _ us hl => match us, hl with | [_, _], _ => rfl
  refine okX F scLst (fun vs H Q E h => ?_) (fun cdv A outer s H vs Q E hr h => ?_)
  · obtain ⟨v, u, d, e, rfl, _⟩ := h
    rfl
  · obtain ⟨v, u, d, e, rfl, hv, hu, wd, we, h⟩ := h
    have hr2 := hr.mono (show 2 ≤ 5 by decide)
    have hr3 := hr.mono (show 3 ≤ 5 by decide)
    have hr4 := hr.mono (show 4 ≤ 5 by decide)
    refine ⟨_, pss_cons (ps_expr (pe_callS GK hr4 (by rfl) gK FK.kp bK (fun σ => passAt (takes_of rfl rfl rfl rfl) σ) (pa_cons (pv 0) pa_nil)))
      <| pss_cons (ps_if (PW.pt (pw_or (pt_not (pt_val (pe_call GA hr3 (by rfl) gA FA.kp bA .nil pass0 (pa_cons (pv 1) pa_nil)))) (pw_or1 (PW.pt (pw_and (pt_truth (pv 0) (by intro _; rfl)) (pw_and1 (pt_cmpR op_ne (pe_callB call_len (by rfl) M.len PySem.boot_len (pa_cons (pv 1) pa_nil)) (pe_callB call_len (by rfl) M.len PySem.boot_len (pa_cons (pe_ix (r := rIxT K) ix_tup (pv 0) pe_int (fun _ _ => rfl)) pa_nil)) (nomark _))))))))
          (pss_one (ps_raise rfl (takes_of rfl rfl rfl rfl) (pmk_err rootV XF.e (raises_own XF.sub XF.ty) hr2 XF.g (by rfl) (pv 1)))) pss_nil)
      <| pss_one (ps_ret (pe_call GT hr2 (by rfl) gT FT.kp bT .nil pass0 (pa_cons (pe_call GR hr (by rfl) gR FR.kp bR .nil pass0 (pa_cons (pv 0) (pa_cons (pe_op op_sub (pe_callB call_len (by rfl) M.len PySem.boot_len (pa_cons (pv 1) pa_nil)) pe_int) pa_nil))) (pa_cons (pv 1) pa_nil)))), ?_⟩
    refine ⟨_, rfl, v, d, rfl, hv, wd, ?_, ?_, ?_⟩
    · rintro ds rfl hall H1 s1
      refine ⟨_, rfl, u, e, rfl, vp_same s1 hu, we, fun H2 s2 => ⟨_, rfl, ?_⟩⟩
      have s12 := s1.trans s2
      obtain ⟨a, xs, rfl, hs, hxs⟩ := vp_tup hv
      have lx := vp_len hxs
      have hs2 := Same.seqT s12 hs
      rcases h with ⟨hn, _⟩ | ⟨ds', i', e1, hi', hj', hb', k⟩ | ⟨ds', e1, _, hbad, k⟩ | ⟨n, ts, g, e1, rfl, _, lo, k⟩
      · exact absurd rfl (hn ds)
      · cases e1
        rw [hall i' hi'] at hb'
        cases hb'
      · cases e1
        cases hf : fmB e with
        | false => exact iteT ⟨_, rfl, fun dd nd => k H2 dd s12 nd⟩
        | true =>
          refine iteF ?_
          obtain ⟨g, rfl, hg⟩ := fm_is hf
          obtain ⟨b, rfl, hb⟩ := vp_form (vp_same s12 hu)
          have hne : ds ≠ [] ∧ lenD (fD g) ≠ lenD (ds.getD 0 .none) := by
            rcases hbad with q | q
            · rw [hf] at q
              cases q
            · exact ⟨q.1, q.2.2⟩
          have hpos : 0 < ds.length := List.length_pos_iff.mpr hne.1
          have hx : xs.isEmpty = false := by
            cases xs with
            | nil =>
              simp at lx
              omega
            | cons => rfl
          refine ⟨_, rfl, !xs.isEmpty, .inr (.inl ⟨_, hs2, rfl⟩), ?_⟩
          rw [hx]
          refine iteT ?_
          obtain ⟨x0, ex0⟩ : ∃ x0, xs[0]? = some x0 := ⟨_, List.getElem?_eq_getElem (by omega)⟩
          obtain ⟨d0, ed0, hx0⟩ := vp_at hxs ex0
          have hf0 : fmB d0 = true := by
            have := hall 0 hpos
            unfold badT at this
            rw [getP_at ed0] at this
            cases q : fmB d0 with
            | true => rfl
            | false =>
              rw [q] at this
              simp at this
          obtain ⟨n0, rfl, hn0⟩ := fm_is hf0
          obtain ⟨b0, rfl, hb0⟩ := vp_form (vp_same s12 hx0)
          refine ⟨_, rfl, _, _, rfl, .inr ⟨_, hb, rfl⟩, _, rfl, a, _, 0, _, rfl, rfl, hs2, atI_nat ex0, _, _, rfl, .inr ⟨_, hb0, rfl⟩, rfl, _, rfl, ?_⟩
          have hl : ¬ g.length = n0.length := fun q => hne.2 (by
            rw [getP_at ed0]
            show (g.map PyData.int).length = (n0.map PyData.int).length
            rw [List.length_map, List.length_map, q])
          simp only [List.length_map]
          rw [show (!decide (V.int ((g.length : Nat) : Int) = V.int ((n0.length : Nat) : Int))) = true by
            rw [decide_eq_false fun e => hl (by have := V.int.inj e; omega)]
            rfl]
          exact iteT ⟨_, rfl, fun dd nd => k H2 dd s12 nd⟩
      · cases e1
        have hxa := (vp_va hxs).same s12
        obtain ⟨b, rfl, hb⟩ := vp_form (vp_same s12 hu)
        have hf : fmB (fD g) = true := by
          have hall2 : ∀ m, intsB m (fD g) = decide (g.length = m) := fun m => by
            show (decide ((g.map PyData.int).length = m) && (g.map PyData.int).all intB) = _
            rw [List.length_map, show (g.map PyData.int).all intB = true from List.all_eq_true.mpr fun x hx => by obtain ⟨z, _, rfl⟩ := List.mem_map.mp hx; rfl, Bool.and_true]
          unfold fmB
          rw [hall2, hall2, hall2]
          have := lo.n2
          have := lo.n4
          have := lo.lg
          rcases (show g.length = 2 ∨ g.length = 3 ∨ g.length = 4 by omega) with q | q | q <;> simp [q]
        rw [hf]
        refine iteF ?_
        have lts : xs.length = ts.length := hxa.1
        obtain ⟨m, rfl⟩ : ∃ m, n = m + 1 := ⟨n - 1, by have := lo.n2; omega⟩
        have n2 := lo.n2
        have n4 := lo.n4
        have lg := lo.lg
        apply with0
        · intro kR
          refine ⟨_, rfl, !xs.isEmpty, .inr (.inl ⟨_, hs2, rfl⟩), ?_⟩
          cases hx : xs.isEmpty with
          | true => exact iteF kR
          | false =>
            refine iteT ?_
            have hpos : 0 < xs.length := by
              cases xs with
              | nil => cases hx
              | cons => simp
            obtain ⟨x0, ex0⟩ : ∃ x0, xs[0]? = some x0 := ⟨_, List.getElem?_eq_getElem hpos⟩
            obtain ⟨b0, rfl, hb0, hm0⟩ := hxa.at ex0
            have l0 := lo.lt _ hm0
            refine ⟨_, rfl, _, _, rfl, .inr ⟨_, hb, rfl⟩, _, rfl, a, _, 0, _, rfl, rfl, hs2, atI_nat ex0, _, _, rfl, .inr ⟨_, hb0, rfl⟩, rfl, _, rfl, ?_⟩
            simp only [List.length_map]
            rw [show (!decide (V.int ((g.length : Nat) : Int) = V.int (((ts.getD 0 []).length : Nat) : Int))) = false by rw [lg, l0]; simp]
            exact iteF kR
        · refine ⟨_, rfl, _, rfl, _, _, rfl, .inr ⟨_, hb, rfl⟩, _, _, rfl, rfl, ?_⟩
          refine ⟨a, m, xs, ts, ?_, hs2, hxa, by omega, by omega, lo.lt, lo.bt, lo.tl, lo.ok, fun r zs H3 s3 hr3 hz => ?_⟩
          · show [V.ref a, V.int (((g.map V.int).length : Nat) - 1 : Int)] = _
            rw [List.length_map, lg]
            have : (((m + 1 : Nat) : Int) - 1) = (m : Int) := by omega
            rw [this]
          · have s13 := s12.trans s3
            exact ⟨_, rfl, r, b, zs, _, g, m + 1, rfl, SqL.of hr3, hz, Same.seqT s3 hb, by omega, by omega, lo.la, lg, lo.ba, lo.bg, lo.al, fun q H4 s4 => k.1 q H4 (s13.trans s4), fun q1 q2 H4 s4 => k.2.1 q1 q2 H4 (s13.trans s4), fun q1 q2 b4 H4 s4 h4 => k.2.2 q1 q2 b4 H4 (s13.trans s4) h4⟩
    · intro hn
      rcases h with ⟨_, k⟩ | ⟨ds, _, rfl, _⟩ | ⟨ds, rfl, _⟩ | ⟨n, ts, g, rfl, _⟩
      · exact k
      · exact absurd rfl (hn ds)
      · exact absurd rfl (hn ds)
      · exact absurd rfl (hn _)
    · rintro ds i rfl hi hj hb
      rcases h with ⟨hn, _⟩ | ⟨ds', i', e1, hi', hj', hb', k⟩ | ⟨ds', e1, hall, _⟩ | ⟨n, ts, g, e1, _, hall, _⟩
      · exact absurd rfl (hn ds)
      · cases e1
        have : i = i' := by
          rcases Nat.lt_trichotomy i i' with q | q | q
          · rw [hj' i q] at hb
            cases hb
          · exact q
          · rw [hj i' q] at hb'
            cases hb'
        subst this
        exact k
      · cases e1
        rw [hall i hi] at hb
        cases hb
      · cases e1
        rw [List.length_map] at hi
        rw [hall i hi] at hb
        cases hb
end
end Pg
set_option Elab.async false
set_option linter.all false
set_option maxRecDepth 100000
set_option maxHeartbeats 8000000
namespace L2
open PySem PySem.Spec PyProof.Rows
/-! a list beside the empty list -/
def rEqE (K : PySem.W.Frag) : R2 := fun x y H Q => ∃ a b xs, x = .ref a ∧ y = .ref b ∧ SqL K H a xs ∧ SqL K H b [] ∧ Q (.bl xs.isEmpty) H
section
variable {X : Cx}
theorem op_eqE (hu : X.A.units + 64 < cLine) : OpR X (compareOp .Eq) (rEqE X.K) := by
  intro pins s σ H x y v u Q I rx ry h
  obtain ⟨a, b, xs, rfl, rfl, ha, hb, q⟩ := h
  cases xs with
  | nil =>
    exact op_eqD hu pins s σ H _ _ _ _ Q I rx ry ⟨.list [], .list [], .lst ha .nil, .lst hb .nil, by decide +kernel, by decide +kernel, q⟩
  | cons z zs =>
    cases rx
    cases ry
    obtain ⟨ia, ra, ⟨oa, na, ha1, ha2, _, ha3⟩, _⟩ := I.list ha
    obtain ⟨ib, rb, ⟨ob, nb, hb1, hb2, _, hb3⟩, _⟩ := I.list hb
    cases rb
    cases ra with
    | cons r1 r2 =>
    exact EqBoolInt.of_rc (SeqAt.RcAt.lists_lengths ⟨oa, ha1, ha2, na, ha3⟩ ⟨ob, hb1, hb2, nb, hb3⟩ (by simp) (by omega)) ⟨.bl false, H, I, rfl, q⟩
end
end L2
namespace K5
open PySem PySem.Spec PyProof.Rows L2 Gd Rl Vd Te
open Pg (intB intsB fmB Wd Wd2 Wd3 Mo fD getP_at getD_at iteDN iteDY iteNN iteNY badT lenD fm_is vp_form same_del del_same nl_del seqT_nl ints_is all_int)
abbrev sShp : Stmt := top 30
abbrev sDue : Stmt := top 31
section
variable {P : Program} {w : World} {K : PySem.W.Frag} {mg : Str → Option Value} {base : Heap} {f : Addr} {fd : FuncData}
def spShp (K : PySem.W.Frag) : Sp := fun vs H Q _ => ∃ (v : V) (d : PyData), vs = [v] ∧ Vp K H v d ∧ Wd2 d ∧ ∀ H', Same H H' → Q (.bl (fmB d)) H'
abbrev nShp : List Str := ["_law_thing", "_law_part"]
theorem scShp : FnScope nShp ["_law_thing"] (defScope sShp) := ⟨rfl, rfl, rfl, by decide +kernel, rfl, by decide +kernel, by decide +kernel⟩
theorem fm_tup (ds : List PyData) : fmB (.tuple ds) = (decide (2 ≤ ds.length) && (decide (ds.length ≤ 4) && ds.all intB)) := by
  show ((decide (ds.length = 2) && ds.all intB) || ((decide (ds.length = 3) && ds.all intB) || (decide (ds.length = 4) && ds.all intB))) = _
  generalize ds.all intB = b
  generalize ds.length = n
  cases b with
  | false => simp
  | true =>
    rw [Bool.eq_iff_iff]
    simp only [Bool.and_true, Bool.or_eq_true, Bool.and_eq_true, decide_eq_true_eq]
    omega
theorem kept_empty {b : Nat → Bool} : ∀ {n : Nat}, (kept b n).length = 0 ↔ ∀ i, i < n → b i = false := by
  intro n
  constructor
  · intro h i hi
    cases q : b i with
    | false => rfl
    | true =>
      have : i ∈ kept b n := List.mem_filter.mpr ⟨List.mem_range.mpr hi, q⟩
      rw [List.length_eq_zero_iff.mp h] at this
      cases this
  · intro h
    apply List.length_eq_zero_iff.mpr
    apply List.filter_eq_nil_iff.mpr
    intro i hi q
    rw [h i (List.mem_range.mp hi)] at q
    cases q
theorem ok_shp (F : FnP K "_law_is_shape" sShp f fd) (T : Mo mg) : FnOk P w K mg base CX0 1 f fd ["_law_thing"] (spShp K) := by
  refine F.ok scShp (fun vs H Q E h => ?_) (fun cdv A outer s H vs Q E hr h => ?_)
  · obtain ⟨v, d, rfl, _⟩ := h
    rfl
  · obtain ⟨v, d, rfl, hd, ho, k⟩ := h
    refine ⟨_, PSs.nox <| pss_cons (ps_if (PW.pt (pw_or (pt_not (pt_val (pe_callB (call_isV (T := "tuple")) (by rfl) T.isi boot_isinstance (pa_cons (pv 0) (pa_cons (pe_bltn (v := .ty "tuple") (by rfl) T.tuple (by decide +kernel) rfl) pa_nil)))))
        (pw_or1 (pt_not (pt_chain op_le op_le pe_int (pe_callB call_len (by rfl) T.len PySem.boot_len (pa_cons (pv 0) pa_nil)) pe_int))))) (pss_one (ps_ret pe_bl)) pss_nil)
      <| pss_one (ps_ret (pe_cmpR (op_eqE hr.units) (pe_lc (own := [("_law_part", 1)]) (g := gName 1) rfl scShp.nd (pi_tup (pv 0)) (blkOk_by (N := nShp) (sc := defScope sShp) (by decide +kernel)) (fun _ _ _ _ _ => pg_name (i := 1) scShp.nd rfl (Or.inl rfl))
          (fun _ _ _ _ _ => pts_one (PW.pt (pw_or (pt_val (pe_callB (id := "isinstance") (r := rIsV K "bool") (call_isV (T := "bool")) (by rfl) T.isi boot_isinstance (pa_cons (pv 1) (pa_cons (pe_bltn (v := .ty "bool") (by rfl) T.bool (by decide +kernel) rfl) pa_nil)))) (pw_or1 (pt_not (pt_val (pe_callB (id := "isinstance") (r := rIsV K "int") (call_isV (T := "int")) (by rfl) T.isi boot_isinstance (pa_cons (pv 1) (pa_cons (pe_bltn (v := .ty "int") (by rfl) T.int (by decide +kernel) rfl) pa_nil)))))))))
          (fun _ _ _ _ _ => pv 1)) (pe_lstR pa_nil) (nomark _))), ?_⟩
    refine ⟨_, rfl, v, d, _, rfl, hd, kit_tuple d, _, rfl, ?_⟩
    have k0 := k H (Same.refl H)
    cases d with
    | tuple ds =>
      refine iteF ?_
      obtain ⟨a, xs, rfl, hs, ha⟩ := vp_tup hd
      obtain ⟨hl, hk⟩ := ho ds rfl
      have lx := vp_len ha
      rw [fm_tup] at k
      refine ⟨_, rfl, _, xs.length, rfl, .inr ⟨_, hs, rfl⟩, _, _, rfl, rfl, _, rfl, ?_⟩
      by_cases h2 : (2 : Int) ≤ (xs.length : Nat)
      · refine iteDY h2 ?_
        refine ⟨_, _, rfl, rfl, _, rfl, ?_⟩
        by_cases h4 : ((xs.length : Nat) : Int) ≤ 4
        · rw [decide_eq_true h4]
          refine iteF ?_
          have kB : ∀ H', Same H H' → Q (.bl (ds.all intB)) H' := fun H' s' => by
            have := k H' s'
            rw [decide_eq_true (show 2 ≤ ds.length by omega), decide_eq_true (show ds.length ≤ 4 by omega), Bool.true_and, Bool.true_and] at this
            exact this
          refine ⟨_, rfl, a, rfl, ⟨_, hs⟩, lcF (walk_tup (xs := xs)) (n1 := by omega) (fun H' s' => Same.seqT s' hs) (fun i => !intB (ds.getD i .none)) (fun i y H => True) (fun _ _ _ _ _ _ => trivial) ?_ ?_⟩
          · rintro D acc i x Ha Hb K2 S hi s nD hD ⟨rfl, ex⟩ kk ks
            obtain ⟨d, ed, hx⟩ := vp_at ha ex
            have eg := getP_at ed
            have hx2 := vp_same s hx
            refine ⟨rfl, _, rfl, x, d, _, rfl, hx2, kit_bool d, _, rfl, ?_⟩
            have yes : intB d = false → ∀ {Hz : Hp}, Same Hb Hz → K2 x Hz := fun q Hz sz => kk _ _ (by rw [eg, q]; rfl) sz trivial
            cases d with
            | bool b => exact iteT ⟨_, rfl, yes rfl (Same.refl _)⟩
            | int i => exact iteF ⟨_, rfl, x, .int i, _, rfl, hx2, kit_int _, _, rfl, ks _ (by rw [eg]; rfl) (Same.refl _)⟩
            | none => exact iteF ⟨_, rfl, x, .none, _, rfl, hx2, kit_int _, _, rfl, _, rfl, yes rfl (Same.refl _)⟩
            | str z => exact iteF ⟨_, rfl, x, .str z, _, rfl, hx2, kit_int _, _, rfl, _, rfl, yes rfl (Same.refl _)⟩
            | list es => exact iteF ⟨_, rfl, x, .list es, _, rfl, hx2, kit_int _, _, rfl, _, rfl, yes rfl (Same.refl _)⟩
            | tuple es => exact iteF ⟨_, rfl, x, .tuple es, _, rfl, hx2, kit_int _, _, rfl, _, rfl, yes rfl (Same.refl _)⟩
            | dict es => exact iteF ⟨_, rfl, x, .dict es, _, rfl, hx2, kit_int _, _, rfl, _, rfl, yes rfl (Same.refl _)⟩
          · rintro D Hb ys nw hlen he
            refine ⟨by show 0 ≤ 1000; decide, fun p2 H2 n2 => ?_⟩
            refine ⟨D, p2, ys, rfl, rfl, SqL.of (n2.2.2 _ _ nw.2.1), SqL.of n2.2.1, ?_⟩
            have e : ys.isEmpty = ds.all intB := by
              rw [lx] at hlen
              cases hB : ds.all intB with
              | true =>
                have z : (kept (fun i => !intB (ds.getD i .none)) ds.length).length = 0 := kept_empty.mpr fun i hi => by
                  rw [List.getD_eq_getElem?_getD, List.getElem?_eq_getElem hi]
                  show (!intB ds[i]) = false
                  rw [List.all_eq_true.mp hB _ (List.getElem_mem hi)]
                  rfl
                rw [z] at hlen
                rw [List.length_eq_zero_iff.mp hlen]
                rfl
              | false =>
                cases ys with
                | cons y yr => rfl
                | nil =>
                  have z := kept_empty.mp hlen.symm
                  have : ds.all intB = true := List.all_eq_true.mpr fun x hx => by
                    obtain ⟨i, hi, rfl⟩ := List.mem_iff_getElem.mp hx
                    have := z i hi
                    rw [List.getD_eq_getElem?_getD, List.getElem?_eq_getElem hi] at this
                    cases q : intB ds[i] with
                    | true => rfl
                    | false =>
                      have e2 : (!intB ds[i]) = false := this
                      rw [q] at e2
                      cases e2
                  rw [hB] at this
                  cases this
            rw [e]
            exact kB H2 (nw.2.2.trans n2.2.2)
        · rw [decide_eq_false h4]
          refine iteT ?_
          rw [decide_eq_false (show ¬ ds.length ≤ 4 by omega), Bool.false_and, Bool.and_false] at k
          exact k H (Same.refl H)
      · refine iteDN h2 ?_
        refine ⟨_, rfl, iteT ?_⟩
        rw [decide_eq_false (show ¬ 2 ≤ ds.length by omega), Bool.false_and] at k
        exact k H (Same.refl H)
    | int i => exact iteT k0
    | bool b => exact iteT k0
    | none => exact iteT k0
    | list ds => exact iteT k0
    | str z => exact iteT k0
    | dict ds => exact iteT k0
end
end K5
set_option Elab.async false
set_option linter.all false
set_option maxRecDepth 100000
set_option maxHeartbeats 8000000
namespace K5
open PySem PySem.Spec PyProof.Rows L2 Gd Rl Vd Te
open Pg (intB intsB fmB Wd Wd2 Wd3 Mo fD getP_at getD_at iteDN iteDY iteNN iteNY badT lenD fm_is vp_form same_del del_same nl_del seqT_nl ints_is all_int)
/-- what a question is due -/
def DueT (d e : PyData) (zs : List Str) : Prop :=
  ((∀ ds, d ≠ .tuple ds) ∧ zs = ([("InvalidForms" : Str), ("None" : Str)] : List Str)) ∨
  (∃ ds i, d = .tuple ds ∧ i < ds.length ∧ (∀ j, j < i → badT ds j = false) ∧ badT ds i = true ∧ zs = ([("InvalidForms" : Str), (PyData.int (i : Nat)).shown] : List Str)) ∨
  (∃ ds, d = .tuple ds ∧ (∀ i, i < ds.length → badT ds i = false) ∧ (fmB e = false ∨ (ds ≠ [] ∧ fmB e = true ∧ lenD e ≠ lenD (ds.getD 0 .none))) ∧ zs = ([("InvalidForm" : Str), e.shown] : List Str)) ∨
  (∃ ds, d = .tuple ds ∧ (∀ i, i < ds.length → badT ds i = false) ∧ fmB e = true ∧ (ds = [] ∨ lenD e = lenD (ds.getD 0 .none)) ∧ zs = ([("told" : Str)] : List Str))
/-- a value that can be shown -/
structure OkE (e : PyData) : Prop where
  sh : PyData.showable e = true
  dp : e.depth ≤ 20
  len : e.shown.length ≤ 1000
  wd : Wd2 (noD e)
theorem fm_noD (e : PyData) : fmB (noD e) = fmB e := by
  cases e <;> rfl
theorem lenD_noD (e : PyData) : lenD (noD e) = lenD e := by
  cases e <;> rfl
section
variable {P : Program} {w : World} {K : PySem.W.Frag} {mg : Str → Option Value} {base : Heap} {f : Addr} {fd : FuncData}
def spDue (K : PySem.W.Frag) : Sp := fun vs H Q _ => ∃ (v u : V) (d e : PyData), vs = [v, u] ∧ Vp K H v d ∧ Rp K H u e ∧ OkE e ∧ Wd3 d ∧ ∀ zs l H', DueT d e zs → Same H H' → H l = none → H' l = some (.lst (zs.map V.str)) → Q (.ref l) H'
abbrev nDue : List Str := ["_law_tests", "_law_shape", "_law_k"]
theorem scDue : FnScope nDue ["_law_tests", "_law_shape"] (defScope sDue) := ⟨rfl, rfl, rfl, by decide +kernel, rfl, by decide +kernel, by decide +kernel⟩
theorem ok_due {fS : Addr} {dS : FuncData} (F : FnP K "_law_due" sDue f fd) (T : Mo mg) (U : mg "repr" = none) (Us : mg "str" = none) (FS : FnP K "_law_is_shape" sShp fS dS) (gS : mg "_law_is_shape" = some (.ref fS)) : FnG P w K mg base 2 f fd ["_law_tests", "_law_shape"] (spDue K) := by
  have GS : FnOk P w K mg base CX0 1 fS dS ["_law_thing"] (spShp K) := ok_shp FS T
  have bS : Binds K dS ["_law_thing"] [] := FS.bindsN fun _ _ _ _ _ _ us hl => match us, hl with | [_], _ => rfl
  refine okG F scDue (fun vs H Q E h => ?_) (fun cdv A outer s H vs Q E hgd hr h => ?_)
  · obtain ⟨v, u, d, e, rfl, _⟩ := h
    rfl
  · obtain ⟨v, u, d, e, rfl, hv, hu, oe, wd, k⟩ := h
    refine ⟨_, PSs.nox <| pss_cons (ps_if (pt_not (pt_val (pe_callB (call_isV (T := "tuple")) (by rfl) T.isi boot_isinstance (pa_cons (pv 0) (pa_cons (pe_bltn (v := .ty "tuple") (by rfl) T.tuple (by decide +kernel) rfl) pa_nil)))))
        (pss_one (ps_ret (pe_lstR (pa_cons pe_str (pa_cons pe_str pa_nil))))) pss_nil)
      <| pss_cons (ps_for PassesOwn.never rfl (pi_range1 (by rfl) T.range (pa_cons (pe_callB call_len (by rfl) T.len PySem.boot_len (pa_cons (pv 0) pa_nil)) pa_nil)) (pg_name (i := 2) scDue.nd rfl (.inl rfl))
          (pss_one (ps_if (PW.pt (pw_or (pt_cmpR op_eq (pv 2) pe_int (nomark _)) (pw_or (pt_not (pt_val (pe_call GS hr (by rfl) gS FS.kp bS .nil pass0 (pa_cons (pe_ix (r := rIxT K) ix_tup (pv 0) (pv 2) (fun _ _ => rfl)) pa_nil))))
              (pw_or1 (pt_cmpR op_ne (pe_callB call_len (by rfl) T.len PySem.boot_len (pa_cons (pe_ix (r := rIxT K) ix_tup (pv 0) (pv 2) (fun _ _ => rfl)) pa_nil)) (pe_callB call_len (by rfl) T.len PySem.boot_len (pa_cons (pe_ix (r := rIxT K) ix_tup (pv 0) pe_int (fun _ _ => rfl)) pa_nil)) (nomark _))))))
            (pss_one (ps_ret (pe_lstR (pa_cons pe_str (pa_cons (pe_callTy call_str_int (by rfl) Us (by decide +kernel) (pa_cons (pv 2) pa_nil)) pa_nil))))) pss_nil)))
      <| pss_cons (ps_if (PW.pt (pw_or (pt_not (pt_val (pe_call GS hr (by rfl) gS FS.kp bS .nil pass0 (pa_cons (pv 1) pa_nil)))) (pw_or1 (PW.pt (pw_and (pt_cmpR (op_neT hr.units) (pv 0) (pe_tupR pa_nil) (nomark _)) (pw_and1 (pt_cmpR op_ne (pe_callB call_len (by rfl) T.len PySem.boot_len (pa_cons (pv 1) pa_nil)) (pe_callB call_len (by rfl) T.len PySem.boot_len (pa_cons (pe_ix (r := rIxT K) ix_tup (pv 0) pe_int (fun _ _ => rfl)) pa_nil)) (nomark _))))))))
        (pss_one (ps_ret (pe_lstR (pa_cons pe_str (pa_cons (pe_callB (call_repr hgd hr.units) (by rfl) U boot_repr (pa_cons (pv 1) pa_nil)) pa_nil))))) pss_nil)
      <| pss_one (ps_ret (pe_lstR (pa_cons pe_str pa_nil))), ?_⟩
    have hu2 : Vp K H u (noD e) := vp_rp hu
    refine ⟨_, rfl, v, d, _, rfl, hv, kit_tuple _, _, rfl, ?_⟩
    have none1 : (∀ ds, d ≠ .tuple ds) → ([V.str "InvalidForms", V.str "None"] : List V).length ≤ 1000 ∧ ∀ p H2, New H p (.lst [V.str "InvalidForms", V.str "None"]) H2 → Q (.ref p) H2 := fun hn => ⟨by show 2 ≤ 1000; decide, fun p H2 n2 => k [("InvalidForms" : Str), ("None" : Str)] p H2 (.inl ⟨hn, rfl⟩) n2.2.2 n2.1 n2.2.1⟩
    cases d with
    | int i => exact iteT (none1 fun _ q => nomatch q)
    | none => exact iteT (none1 fun _ q => nomatch q)
    | bool b => exact iteT (none1 fun _ q => nomatch q)
    | str z => exact iteT (none1 fun _ q => nomatch q)
    | list ds => exact iteT (none1 fun _ q => nomatch q)
    | dict ds => exact iteT (none1 fun _ q => nomatch q)
    | tuple ds =>
      refine iteF ?_
      obtain ⟨a, xs, rfl, hs, hxs⟩ := vp_tup hv
      have lx := vp_len hxs
      obtain ⟨fl, fs⟩ := wd ds rfl
      refine ⟨_, rfl, _, xs.length, rfl, .inr ⟨_, hs, rfl⟩, _, rfl, by omega, by omega, for_range (lo := 0) (n := ((xs.length : Nat) : Int).toNat) (fun j σ H' => ∃ x2, σ = [some (.ref a), some u, x2] ∧ Same H H' ∧ ∀ i, i < j → badT ds i = false) ⟨_, rfl, Same.refl H, fun i hi => absurd hi (Nat.not_lt_zero i)⟩ ?_ ?_⟩
      · rintro j σ H1 hj ⟨x2, rfl, s1, hall⟩
        have hj2 : j < ds.length := by omega
        have j9 : j ≤ 9 := by
          rcases Nat.lt_or_ge 9 j with q | q
          · have := hall 9 q
            unfold badT at this
            simp at this
          · exact q
        have raise : ∀ {H3 : Hp}, Same H H3 → badT ds j = true → ([V.str "InvalidForms", V.str (PyData.int (j : Nat)).shown] : List V).length ≤ 1000 ∧ ∀ p H2, New H3 p (.lst [V.str "InvalidForms", V.str (PyData.int (j : Nat)).shown]) H2 → Q (.ref p) H2 := fun s3 hb => ⟨by show 2 ≤ 1000; decide, fun p H2 n2 => k [("InvalidForms" : Str), (PyData.int (j : Nat)).shown] p H2 (.inr (.inl ⟨ds, j, rfl, hj2, hall, hb, rfl⟩)) (s3.trans n2.2.2) (s3.free n2.1) n2.2.1⟩
        have lg : ((j : Nat) : Int).natAbs.log2 < 1920 := by
          rw [Int.natAbs_natCast]
          exact Nat.lt_of_le_of_lt (Nat.log2_le_self j) (by omega)
        rw [Int.zero_add]
        obtain ⟨z, ez⟩ : ∃ z, xs[j]? = some z := ⟨_, List.getElem?_eq_getElem (by omega)⟩
        obtain ⟨dz, edz, hz⟩ := vp_at hxs ez
        have eg := getP_at edz
        have hs1 := Same.seqT s1 hs
        refine ⟨_, rfl, rfl, _, rfl, ?_⟩
        by_cases h9 : j = 9
        · refine iteDY (by rw [h9]; rfl) ?_
          refine ⟨_, rfl, _, rfl, lg, raise s1 ?_⟩
          unfold badT
          rw [decide_eq_true (show 9 ≤ j by omega)]
          rfl
        refine iteDN (fun q => h9 (by have := V.int.inj q; omega)) ?_
        refine ⟨_, rfl, _, rfl, a, _, _, _, rfl, rfl, hs1, atI_nat ez, z, dz, rfl, vp_same s1 hz, fs dz (List.mem_of_getElem? edz), fun H3 s3 => ⟨_, rfl, ?_⟩⟩
        have s13 := s1.trans s3
        cases hb : fmB dz with
        | false =>
          refine iteT ?_
          refine ⟨_, rfl, _, rfl, lg, raise s13 ?_⟩
          unfold badT
          rw [eg, hb]
          simp
        | true =>
          refine iteF ?_
          obtain ⟨ns, rfl, hns⟩ := fm_is hb
          obtain ⟨b, rfl, hsb⟩ := vp_form (vp_same s13 hz)
          have hd0 : fmB (ds.getD 0 .none) = true := by
            rcases Nat.eq_zero_or_pos j with h | h
            · subst h
              rw [eg, hb]
            · have := hall 0 h
              unfold badT at this
              cases q : fmB (ds.getD 0 .none) with
              | true => rfl
              | false =>
                rw [q] at this
                simp at this
          obtain ⟨n0, e0, hn0⟩ := fm_is hd0
          have hlt0 : 0 < ds.length := by omega
          have ed0 : ds[0]? = some (fD n0) := by
            rw [← e0, List.getD_eq_getElem?_getD, List.getElem?_eq_getElem hlt0]
            rfl
          obtain ⟨x0, ex0⟩ : ∃ x0, xs[0]? = some x0 := ⟨_, List.getElem?_eq_getElem (by omega)⟩
          obtain ⟨d0, ed0', hx0⟩ := vp_at hxs ex0
          cases ed0.symm.trans ed0'
          obtain ⟨b0, rfl, hsb0⟩ := vp_form (vp_same s13 hx0)
          have hs13 := Same.seqT s13 hs
          refine ⟨_, rfl, _, rfl, a, _, _, _, rfl, rfl, hs13, atI_nat ez, _, _, rfl, .inr ⟨_, hsb, rfl⟩, _, rfl, a, _, 0, _, rfl, rfl, hs13, atI_nat ex0, _, _, rfl, .inr ⟨_, hsb0, rfl⟩, rfl, _, rfl, ?_⟩
          have l1 : lenD (ds.getD j .none) = ns.length := by
            rw [eg]
            show (ns.map PyData.int).length = _
            rw [List.length_map]
          have l0 : lenD (ds.getD 0 .none) = n0.length := by
            rw [e0]
            show (n0.map PyData.int).length = _
            rw [List.length_map]
          have eb : badT ds j = !decide (ns.length = n0.length) := by
            unfold badT
            rw [decide_eq_false (show ¬ 9 ≤ j by omega), eg, hb]
            rw [eg] at l1
            rw [l1, l0]
            rfl
          simp only [List.length_map]
          by_cases hl : ns.length = n0.length
          · rw [show (!decide (V.int ((ns.length : Nat) : Int) = V.int ((n0.length : Nat) : Int))) = false by rw [hl]; simp]
            refine iteF ?_
            refine ⟨_, rfl, s13, fun i hi => ?_⟩
            rcases Nat.lt_or_ge i j with h | h
            · exact hall i h
            · have : i = j := by omega
              subst this
              rw [eb, hl]
              simp
          · rw [show (!decide (V.int ((ns.length : Nat) : Int) = V.int ((n0.length : Nat) : Int))) = true by
              rw [decide_eq_false fun e => hl (by have := V.int.inj e; omega)]
              rfl]
            exact iteT ⟨_, rfl, _, rfl, lg, raise s13 (by rw [eb, decide_eq_false hl]; rfl)⟩
      · rintro σ H1 ⟨x2, rfl, s1, hall⟩
        have hall2 : ∀ i, i < ds.length → badT ds i = false := fun i hi => hall i (by omega)
        have hu3 := vp_same s1 hu2
        have hs1 := Same.seqT s1 hs
        have bad : ∀ {H3 : Hp}, Same H H3 → (fmB e = false ∨ (ds ≠ [] ∧ fmB e = true ∧ lenD e ≠ lenD (ds.getD 0 .none))) → ∃ v d, [u] = [v] ∧ Rp K H3 v d ∧ PyData.showable d = true ∧ d.depth ≤ 20 ∧ d.shown.length ≤ sizeLine ∧ ([V.str "InvalidForm", V.str d.shown] : List V).length ≤ 1000 ∧ ∀ p H2, New H3 p (.lst [V.str "InvalidForm", V.str d.shown]) H2 → Q (.ref p) H2 := fun s3 hb => ⟨u, e, rfl, rp_same s3 hu, oe.sh, oe.dp, sz1000 oe.len, by show 2 ≤ 1000; decide, fun p H2 n2 => k [("InvalidForm" : Str), e.shown] p H2 (.inr (.inr (.inl ⟨ds, rfl, hall2, hb, rfl⟩))) (s3.trans n2.2.2) (s3.free n2.1) n2.2.1⟩
        have good : ∀ {H3 : Hp}, Same H H3 → fmB e = true → (ds = [] ∨ lenD e = lenD (ds.getD 0 .none)) → ([V.str "told"] : List V).length ≤ 1000 ∧ ∀ p H2, New H3 p (.lst [V.str "told"]) H2 → Q (.ref p) H2 := fun s3 h1 h2 => ⟨by show 1 ≤ 1000; decide, fun p H2 n2 => k [("told" : Str)] p H2 (.inr (.inr (.inr ⟨ds, rfl, hall2, h1, h2, rfl⟩))) (s3.trans n2.2.2) (s3.free n2.1) n2.2.1⟩
        refine ⟨_, rfl, u, noD e, rfl, hu3, oe.wd, fun H2 s2 => ⟨_, rfl, ?_⟩⟩
        have s12 := s1.trans s2
        rw [fm_noD]
        cases hf : fmB e with
        | false => exact iteT ⟨_, rfl, bad s12 (.inl hf)⟩
        | true =>
          refine iteF ?_
          have hfe : fmB (noD e) = true := by rw [fm_noD]; exact hf
          obtain ⟨g, eg, hg⟩ := fm_is hfe
          rw [eg] at hu2
          have le : lenD e = g.length := by
            rw [← lenD_noD, eg]
            show (g.map PyData.int).length = _
            rw [List.length_map]
          refine ⟨_, rfl, by show 0 ≤ 1000; decide, fun p H3 n3 => ⟨a, p, xs, rfl, rfl, Same.seqT (s12.trans n3.2.2) hs, SqT.of n3.2.1, _, rfl, ?_⟩⟩
          have s13 := s12.trans n3.2.2
          have hs3 := Same.seqT s13 hs
          cases hx : xs.isEmpty with
          | true =>
            have e0 : ds = [] := by
              have : xs = [] := List.isEmpty_iff.mp hx
              rw [this] at lx
              exact List.length_eq_zero_iff.mp lx.symm
            exact iteF (good s13 hf (.inl e0))
          | false =>
            refine iteT ?_
            have hpos : 0 < xs.length := by
              cases xs with
              | nil => cases hx
              | cons => simp
            have hne : ds ≠ [] := fun q => by
              rw [q] at lx
              have : xs.length = 0 := lx
              omega
            obtain ⟨x0, ex0⟩ : ∃ x0, xs[0]? = some x0 := ⟨_, List.getElem?_eq_getElem hpos⟩
            obtain ⟨d0, ed0, hx0⟩ := vp_at hxs ex0
            have hf0 : fmB d0 = true := by
              have := hall2 0 (by omega)
              unfold badT at this
              rw [getP_at ed0] at this
              cases q : fmB d0 with
              | true => rfl
              | false =>
                rw [q] at this
                simp at this
            obtain ⟨n0, rfl, hn0⟩ := fm_is hf0
            obtain ⟨b0, rfl, hb0⟩ := vp_form (vp_same s13 hx0)
            obtain ⟨b, rfl, hb⟩ := vp_form (vp_same s13 hu2)
            refine ⟨_, rfl, _, _, rfl, .inr ⟨_, hb, rfl⟩, _, rfl, a, _, 0, _, rfl, rfl, hs3, atI_nat ex0, _, _, rfl, .inr ⟨_, hb0, rfl⟩, rfl, _, rfl, ?_⟩
            have l0 : lenD (ds.getD 0 .none) = n0.length := by
              rw [getP_at ed0]
              show (n0.map PyData.int).length = _
              rw [List.length_map]
            simp only [List.length_map]
            by_cases hl : g.length = n0.length
            · rw [show (!decide (V.int ((g.length : Nat) : Int) = V.int ((n0.length : Nat) : Int))) = false by rw [hl]; simp]
              exact iteF (good s13 hf (.inr (by rw [le, l0, hl])))
            · rw [show (!decide (V.int ((g.length : Nat) : Int) = V.int ((n0.length : Nat) : Int))) = true by
                rw [decide_eq_false fun e => hl (by have := V.int.inj e; omega)]
                rfl]
              exact iteT ⟨_, rfl, bad s13 (.inr ⟨hne, hf, by rw [le, l0]; exact hl⟩)⟩
end
end K5
set_option Elab.async false
set_option linter.all false
set_option maxRecDepth 100000
set_option maxHeartbeats 8000000
namespace Hy
open PySem PySem.Spec PyProof.Rows L2 L2H Gd Rl Fx
/-! try: .. except (A, B, C) as n: .. -/
/-- what the clause wishes of an error of the body: slot i is n's -/
def wAs3 (K : PySem.W.Frag) (cs : List Value) (i m : Nat) (ts : Addr → Value → Option Addr → TS) (Wout : WX) (D : Ends) : WX := fun cls d σ H =>
  ∃ b, PySem.W.exmAny K cls cs = some b ∧ (b = true → ∀ a, H a = none → σ.length = m → ts a cls d { nx := fun σ' H' => D.nx (σ'.set i none) H', rt := D.rt, bk := fun σ' H' => D.bk (σ'.set i none) H', ct := fun σ' H' => D.ct (σ'.set i none) H' } (σ.set i (some (.ref a))) H) ∧ (b = false → Wout cls d σ H)
theorem stays_push {B h : Heap} {o : Obj} (k : B.StaysIn h) : B.StaysIn (h.push o) := fun b u e => Heap.get?_push_of_some _ (k b u e)
theorem flying_push {B h : Heap} {l : List Env} {a : Addr} {Z : Obj → Prop} {o : Obj} (x : HandSPX.FlyingZ B l a Z h) : HandSPX.FlyingZ B l a Z (h.push o) := by
  obtain ⟨x1, x2, x3, oe, vs, T, oT, ts, e1, e2, e3, e4, e5, e6, e7, e8⟩ := x
  exact ⟨stays_push x1, x2, x3.of_keeps fun b u e _ => ⟨u, Heap.get?_push_of_some _ e, rfl⟩, oe, vs, T, oT, ts, Heap.get?_push_of_some _ e1, e2, e3, e4, e5, e6, Heap.get?_push_of_some _ e7, e8⟩
section
variable {X : Cx} {n : Str} {i : Nat} {body suite : List Stmt} {b₀ : Stmt} {pos pos' : Pos} {tb : WX → TS} {ts : Addr → Value → Option Addr → TS} {Wout : WX} {x1 x2 x3 : Str} {c1 c2 c3 : Value} {p1 p2 p3 tp : Pos} {kk : Nat}
/-- the classes of the clause are read: a new tuple holds them -/
theorem three_read {pn : List (Addr × Obj)} {a : Addr} {σ : L2.St} {H : Hp} {s : Shared} {q : Addr × Obj} {Q : Value → Shared → Prop} {E : Value → Shared → Prop} (S : Inv (X.suite a (q :: pn)) [] σ H s) (n1 : Names X x1 c1) (n2 : Names X x2 c2) (n3 : Names X x3 c3)
    (h : Q (.ref s.heap.objs.size) { s with heap := s.heap.push { cls := .type "tuple", data := .seq [c1, c2, c3].toArray } }) :
    wpAny (model X.prog X.w) (X.A.mark (some (.ref a))) (eval (.Tuple [.Name x1 p1, .Name x2 p2, .Name x3 p3] kk tp) X.env) Q E s := by
  have one : ∀ {x : Str} {c : Value} {p : Pos} {Q : Value → Shared → Prop}, Names X x c → Q c s → wpAny (model X.prog X.w) (X.A.mark (some (.ref a))) (eval (.Name x p) X.env) Q E s := fun {x c p Q} hn q0 => by
    obtain ⟨hg, hdbg, hm | ⟨hm, hv, hnn⟩⟩ := hn
    · exact ld_glob (X := X.suite a (q :: pn)) S hg hm q0 hdbg
    · exact ld_blt (X := X.suite a (q :: pn)) S hg hm hv q0 hnn hdbg
  refine wpAny_Tuple (wpAny_items_cons (one n1 (wpAny_items_cons (one n2 (wpAny_items_cons (one n3 (wpAny_items_nil ⟨by size_fits, h⟩)))))))
theorem ps_try3 (hs : X.stack = X.env :: X.outer) (hf : X.env.frame = some X.env.locals) (hN : X.N.Nodup) (hi : X.N[i]? = some n) (hln : X.env.kindOf n = some .local) (n1 : Names X x1 c1) (n2 : Names X x2 c2) (n3 : Names X x3 c3) (tk : Takes X Wout)
    (hb : ∀ (W : WX) (pn : List (Addr × Obj)) (xe : Value → Shared → Prop), Takes (X.tr pn xe) W → PassesOwn (model X.prog X.w) X.A X.env xe → PSs (X.tr pn xe) body (tb W))
    (hsu : ∀ (a : Addr) (oe : Obj) (cls : Value) (d : Option Addr) (pn : List (Addr × Obj)), Zc cls d oe → (∃ vs, oe.data = .fields vs) → PSs (X.suite a ((a, oe) :: pn)) (b₀ :: suite) (ts a cls d)) :
    PS X (.Try body [.ExceptHandler (some (.Tuple [.Name x1 p1, .Name x2 p2, .Name x3 p3] kk tp)) (some n) (b₀ :: suite) pos'] [] [] pos) (fun D σ H => tb (wAs3 X.K [c1, c2, c3] i X.N.length ts Wout D) D σ H) := by
  refine ⟨fun pins s σ H D I h => ?_⟩
  have ok := I.ok
  have hfr : X.A.frames = some (X.env :: X.outer) := by rw [ok.frames, hs]
  have hloc : Loc X.env.scope n := .inl hln
  refine wpAny_Try_except (wpAny_mono ((hb (wAs3 X.K [c1, c2, c3] i X.N.length ts Wout D) (X.pn ++ pins) (fun e s₁ => wpAny (model X.prog X.w) X.A (noteFrame e X.env) (fun _ s₂ => wpAny (model X.prog X.w) X.A (setFlight e none) (fun _ s₃ =>
    wpAny (model X.prog X.w) X.A (handleBy e X.env [.ExceptHandler (some (.Tuple [.Name x1 p1, .Name x2 p2, .Name x3 p3] kk tp)) (some n) (b₀ :: suite) pos']) (SP X pins D) X.xe s₃) X.xe s₂) X.xe s₁) (fun u s' xx => ?_) PassesOwn.looking).run [] s σ H D (I.toTry _) h) (fun f s1 hsp => ?_) fun e s1 he => he)
  · obtain ⟨a, B, sI, pins', σ', H', cls, d, rfl, J', nb, up, sky, na, os, ag, b, hb1, hyes, hno⟩ := xx
    have J : Inv X pins σ' H' sI := J'.ofTry ok
    have sky' : Sky B (X.env :: X.outer) a (Zc cls d) X.env.locals s'.heap := by rw [← hs]; exact sky
    refine Sky.land Zc.steady hfr hf sky' fun h3 fl3 up3 => ?_
    have J3 : Inv X pins σ' H' { s' with heap := h3 } := J.landed nb fl3.1 (up.trans up3) os ag
    obtain ⟨oe3, vs3, he3, hz3, hd3⟩ := fl3.there
    have nfr : a ∉ frs (X.env :: X.outer) := fun hm => by
      obtain ⟨_, o', e', hnf⟩ := fl3.2.2.1.mem hm
      rw [he3] at e'
      cases e'
      exact hnf _ hd3
    have nL : a ≠ X.env.locals := fun z => nfr (List.mem_filterMap.mpr ⟨X.env, List.mem_cons_self, by rw [hf, z]⟩)
    have nF : a ∉ X.fs := fun hm => by
      obtain ⟨e, he, q⟩ := List.mem_filterMap.mp hm
      exact nfr (List.mem_filterMap.mpr ⟨e, List.mem_cons_of_mem _ he, q⟩)
    have S3 := J3.suite he3 hd3 na nL nF
    refine wpAny_handleBy_cons (codeAny_handlers_test ?_) (by intro q; cases q)
    refine three_read S3 n1 n2 n3 ?_
    have kp : ∀ b o, h3.get? b = some o → (h3.push { cls := .type "tuple", data := .seq [c1, c2, c3].toArray }).get? b = some o := fun b o e => Heap.get?_push_of_some _ e
    have LT : PySem.W.Looks (model X.prog X.w) (h3.push { cls := .type "tuple", data := .seq [c1, c2, c3].toArray }) (typeOf (.ref a)) cls := fun A Q E s k q => wpAny_typeOf_ref (k _ _ (kp _ _ he3)) (by rw [hz3.1]; exact q)
    have LM := PySem.W.exm_tup3 (M := model X.prog X.w) (J3.kIn.keeps kp) LT (Heap.get?_push_size h3 rfl) hb1
    have flp : HandSPX.FlyingZ B (X.env :: X.outer) a (Zc cls d) (h3.push { cls := .type "tuple", data := .seq [c1, c2, c3].toArray }) := flying_push fl3
    have upp : s'.heap.UpToSlots (h3.push { cls := .type "tuple", data := .seq [c1, c2, c3].toArray }) := up3.trans (Heap.UpToSlots.of_keeps kp)
    refine LM.here ?_
    generalize h3.push { cls := .type "tuple", data := .seq [c1, c2, c3].toArray } = h3' at flp upp
    cases b with
    | true =>
      refine codeAny_handlers_suite_as (HandSPX.lands_againZ flp fun h4 fl4 up4 => ?_)
      have J4 : Inv X pins σ' H' { s' with heap := h4 } := J.landed nb fl4.1 ((up.trans upp).trans up4) os ag
      obtain ⟨oe4, vs4, he4, hz4, hd4⟩ := fl4.there
      have S4 := J4.suite he4 hd4 na nL nF
      refine store_ok (X := X.suite a ((a, oe4) :: (X.pn ++ pins))) (v := .ref a) S4 hN hi hloc rfl (fun s5 S5 => ?_) (.inr hln)
      refine wpAny_mono ((hsu a oe4 cls d (X.pn ++ pins) hz4 ⟨_, hd4⟩).run [] s5 _ H' _ S5 (hyes rfl a na J.len)) (fun f s6 hsp => ?_) (fun _ _ z => False.elim z)
      have last : ∀ {σ6 : L2.St} {H6 : Hp} {Q : Shared → Prop}, Inv (X.suite a ((a, oe4) :: (X.pn ++ pins))) [] σ6 H6 s6 → (∀ s7, Inv X pins (σ6.set i none) H6 s7 → Q s7) →
          wpAny (model X.prog X.w) X.A (do bindName X.env n .none; unbindBehindTheSuite X.env n pos') (fun _ s7 => Q s7) X.xe s6 := fun {σ6 H6 Q} S6 hq => gone_ok (S6.unsuite ok) hN hi hln hq
      cases f with
      | next =>
        obtain ⟨σ6, H6, S6, q6⟩ := hsp
        exact last S6 fun s7 J7 => ⟨_, _, J7, q6⟩
      | brk =>
        obtain ⟨σ6, H6, S6, q6⟩ := hsp
        exact last S6 fun s7 J7 => ⟨_, _, J7, q6⟩
      | cont =>
        obtain ⟨σ6, H6, S6, q6⟩ := hsp
        exact last S6 fun s7 J7 => ⟨_, _, J7, q6⟩
      | ret u =>
        obtain ⟨v6, σ6, H6, S6, r6, q6⟩ := hsp
        exact last S6 fun s7 J7 => ⟨_, _, _, J7, r6, q6⟩
    | false =>
      refine wpAny_handleBy_nil ?_
      obtain ⟨k1, k2, k3, oe, vs, T, oT, ts', he, hz, hd, h1, hr⟩ := id flp
      unfold PySem.passOn
      refine wpAny_bind (wpAny_field he hd h1 ?_)
      rw [if_neg (show ¬ ((Value.ref T == Value.none) = true) from by simp)]
      have fin : wpAny (model X.prog X.w) X.A (setFlight (.ref a) X.env.frame) (fun _ s4 => wpAny (model X.prog X.w) X.A (throw (.ref a) : Sem Flow) (SP X pins D) X.xe s4) X.xe { s' with heap := h3' } := by
        rw [hf]
        refine HandSPX.setFlight_upZ flp fun h4 hh4 up4 => wpAny_throw (tk _ _ ⟨a, B, sI, pins, σ', H', cls, d, rfl, J, nb, (up.trans upp).trans up4, .inr (.inr (by rw [hs]; exact hh4)), na, os, ag, hno rfl⟩)
      first
        | exact wpAny_bind (wpAny_pure (wpAny_bind fin))
        | exact wpAny_bind fin
  · cases f with
    | next =>
      obtain ⟨σ', H', J', q⟩ := hsp
      exact wpAny_execs_nil ⟨σ', H', J'.ofTry ok, q⟩
    | brk =>
      obtain ⟨σ', H', J', q⟩ := hsp
      exact ⟨σ', H', J'.ofTry ok, q⟩
    | cont =>
      obtain ⟨σ', H', J', q⟩ := hsp
      exact ⟨σ', H', J'.ofTry ok, q⟩
    | ret u =>
      obtain ⟨v, σ', H', J', r, q⟩ := hsp
      exact ⟨v, σ', H', J'.ofTry ok, r, q⟩
end
end Hy
set_option Elab.async false
set_option linter.all false
set_option maxRecDepth 100000
set_option maxHeartbeats 8000000
namespace K5
open PySem PySem.Spec PyProof.Rows L2 L2H Gd Rl Hy Fx Vd
open Pg (Mo)
abbrev sCt : Stmt := top 29
structure Bas (K : PySem.W.Frag) (mg : Str → Option Value) (b0 b1 b2 : Addr) : Prop where
  g0 : mg "WrongValue" = some (.ref b0)
  g1 : mg "WrongName" = some (.ref b1)
  g2 : mg "NotPossible" = some (.ref b2)
structure ErT (K : PySem.W.Frag) (C b0 b1 b2 : Addr) (f : Str) : Prop where
  i : IsC K C
  x : XfC K C
  no : PySem.W.findIn K (.ref C) f = some none
  v : PySem.W.kitOne K (.ref C) (.type "ValueError") = some true
  any : PySem.W.exmAny K (.ref C) [.ref b0, .ref b1, .ref b2] = some true
/-- the two errors: where, what each is -/
structure Ers (K : PySem.W.Frag) (mg : Str → Option Value) (b0 b1 b2 CN CF : Addr) : Prop where
  gN : mg "InvalidForms" = some (.ref CN)
  gF : mg "InvalidForm" = some (.ref CF)
  sN : ErT K CN b0 b1 b2 "index"
  sF : ErT K CF b0 b1 b2 "given"
  nn : PySem.W.kitOne K (.ref CN) (.ref CN) = some true
  fn : PySem.W.kitOne K (.ref CF) (.ref CN) = some false
  ff : PySem.W.kitOne K (.ref CF) (.ref CF) = some true
structure BlS (mg : Str → Option Value) : Prop where
  isi : mg "isinstance" = none
  repr : mg "repr" = none
  ve : mg "ValueError" = none
def Shw (K : PySem.W.Frag) (H : Hp) (v : V) (d : PyData) : Prop := Rp K H v d ∧ PyData.showable d = true ∧ d.depth ≤ 20 ∧ d.shown.length ≤ sizeLine
/-- an error, told -/
def ToldC (K : PySem.W.Frag) (CN CF : Addr) (c : Value) (d : Option Addr) (H : Hp) (Q : VK) : Prop :=
  (∃ (dd : Addr) (v : V) (dv : PyData), c = .ref CN ∧ d = some dd ∧ H dd = some (.xd [("index", v)]) ∧ Shw K H v dv ∧ ∀ l H', New H l (.lst [.str "InvalidForms", .str dv.shown]) H' → Q (.ref l) H') ∨
  (∃ (dd : Addr) (v : V) (dv : PyData), c = .ref CF ∧ d = some dd ∧ H dd = some (.xd [("given", v)]) ∧ Shw K H v dv ∧ ∀ l H', New H l (.lst [.str "InvalidForm", .str dv.shown]) H' → Q (.ref l) H')
abbrev nCt : List Str := ["_law_act", "e"]
theorem scCt : FnScope nCt ["_law_act"] (defScope sCt) := ⟨rfl, rfl, rfl, by decide +kernel, rfl, by decide +kernel, by decide +kernel⟩
def TTc (K : PySem.W.Frag) (CN CF : Addr) : (XK → Hp → VK → Prop) → Hp → VK → Prop := fun tl H Q => tl (fun c d H' => ToldC K CN CF c d H' Q) H fun v H' => ([V.str "told"] : List V).length ≤ 1000 ∧ ∀ l H2, New H' l (.lst [.str "told"]) H2 → Q (.ref l) H2
section
variable {K : PySem.W.Frag} {mg : Str → Option Value} {b0 b1 b2 CN CF : Addr}
theorem ps_wit {X : Cx} {st : List Stmt} {T : TS} (h : ∀ D σ H, T D σ H → ∃ t, PSs X st t ∧ t D σ H) : PSs X st T := ⟨fun pins s σ H D I hT => by
  obtain ⟨t, p, h2⟩ := h D σ H hT
  exact p.run pins s σ H D I h2⟩
theorem caught_gives {X : Cx} {g : Addr} {cdg : Value} {q : Str} (hK : X.K = K) (hmg : X.mg = mg) (hr : Room 2 X.A) (hgd : X.A.guards = some []) (B : Bas K mg b0 b1 b2) (U : BlS mg) (T : Ers K mg b0 b1 b2 CN CF) : LamX.GivesTo X nCt "_law_caught" (defScope sCt) g cdg (defBody sCt) "_law_act" q (TTc K CN CF) := by
  subst hK hmg
  intro f c' s H Q tl act hc h
  have hr1 : RoomH 1 (X.A.deeper (envOfC "_law_caught" (defScope sCt) s.heap.objs.size g cdg)) := roomH_of (hr.deeper _)
  have hg1 : (X.A.deeper (envOfC "_law_caught" (defScope sCt) s.heap.objs.size g cdg)).guards = some [] := deeper_guards hgd
  have hu : (X.A.deeper (envOfC "_law_caught" (defScope sCt) s.heap.objs.size g cdg)).units + 64 < cLine := by
    have := hr1.un
    omega
  refine ⟨_, pss_cons (ps_try3 (X := (cxOf C8.CX0 X.prog X.w X.K X.mg X.base nCt "_law_caught" (defScope sCt) g cdg X.A X.stack s H C8.E0).nox) (i := 1)
      (tb := fun W D σ H => ∃ Ech : XK, (∀ cls d σ' H', Ech cls d H' → W cls d σ' H') ∧ σ[0]? = some (some (.ref f)) ∧ H c' = some (LamX.CodeO c' q) ∧ tl Ech H fun v H' => D.nx σ H')
      (ts := fun a cls d D σ H => σ[1]? = some (some (.ref a)) ∧ ToldC X.K CN CF cls d H D.rt)
      rfl rfl scCt.nd rfl rfl ⟨by rfl, by decide, .inl B.g0⟩ ⟨by rfl, by decide, .inl B.g1⟩ ⟨by rfl, by decide, .inl B.g2⟩ L2.takes0 (fun W pn xe tk _ => ?_)
      (fun a oe cls d pn hz hf => ps_wit fun D σ H' h' => ?_))
    <| pss_one (ps_ret (pe_lstR (pa_cons pe_str pa_nil))), ?_⟩
  · refine ⟨fun pins s' σ H' D I h' => ?_⟩
    obtain ⟨Ech, hW, h1, h2, h3⟩ := h'
    exact (pss_one (ps_expr (act W pn xe Ech _ _ tk hW))).run pins s' σ H' D I ⟨h1, h2, h3⟩
  · obtain ⟨h1, h2⟩ := h'
    have hp : ∀ {l : List (Addr × Obj)}, (a, oe) ∈ (a, oe) :: l := List.mem_cons_self
    rcases h2 with ⟨dd, v, dv, rfl, rfl, hd, hv, k⟩ | ⟨dd, v, dv, rfl, rfl, hd, hv, k⟩
    · refine ⟨_, pss_cons (ps_if (pt_not (pt_val (pe_callB (call_isP hp hz hf T.sN.i) (by rfl) U.isi boot_isinstance (pa_cons (pv 1) (pa_cons (pe_bltn (v := .ty "ValueError") (by rfl) U.ve (by decide +kernel) rfl) pa_nil))))) (pss_one ps_never) pss_nil)
        <| pss_cons (ps_if (pt_val (pe_callB (call_isP hp hz hf T.sN.i) (by rfl) U.isi boot_isinstance (pa_cons (pv 1) (pa_cons (pe_glob (v := .ref CN) (by rfl) T.gN rfl) pa_nil)))) (pss_one (ps_ret (pe_lstR (pa_cons pe_str (pa_cons (pe_callB (call_repr hg1 hu) (by rfl) U.repr boot_repr (pa_cons (pe_xp T.sN.x T.sN.no hp hz hf (pv 1)) pa_nil)) pa_nil))))) pss_nil)
        <| pss_one ps_never, ?_⟩
      refine ⟨_, h1, .ty "ValueError", .type "ValueError", _, _, rfl, .ty _, hd, T.sN.v, _, rfl, iteF ?_⟩
      refine ⟨_, h1, .ref CN, .ref CN, _, _, rfl, .own _, hd, T.nn, _, rfl, iteT ?_⟩
      exact ⟨_, h1, _, v, rfl, hd, rfl, v, dv, rfl, hv.1, hv.2.1, hv.2.2.1, hv.2.2.2, by show 2 ≤ 1000; decide, k⟩
    · refine ⟨_, pss_cons (ps_if (pt_not (pt_val (pe_callB (call_isP hp hz hf T.sF.i) (by rfl) U.isi boot_isinstance (pa_cons (pv 1) (pa_cons (pe_bltn (v := .ty "ValueError") (by rfl) U.ve (by decide +kernel) rfl) pa_nil))))) (pss_one ps_never) pss_nil)
        <| pss_cons (ps_if (pt_val (pe_callB (call_isP hp hz hf T.sF.i) (by rfl) U.isi boot_isinstance (pa_cons (pv 1) (pa_cons (pe_glob (v := .ref CN) (by rfl) T.gN rfl) pa_nil)))) (pss_one ps_never) pss_nil)
        <| pss_one (ps_ret (pe_ifExp (pt_val (pe_callB (call_isP hp hz hf T.sF.i) (by rfl) U.isi boot_isinstance (pa_cons (pv 1) (pa_cons (pe_glob (v := .ref CF) (by rfl) T.gF rfl) pa_nil)))) (pe_lstR (pa_cons pe_str (pa_cons (pe_callB (call_repr hg1 hu) (by rfl) U.repr boot_repr (pa_cons (pe_xp T.sF.x T.sF.no hp hz hf (pv 1)) pa_nil)) pa_nil))) (pe_lstR (pa_cons pe_str (pa_cons pe_str pa_nil))))), ?_⟩
      refine ⟨_, h1, .ty "ValueError", .type "ValueError", _, _, rfl, .ty _, hd, T.sF.v, _, rfl, iteF ?_⟩
      refine ⟨_, h1, .ref CN, .ref CN, _, _, rfl, .own _, hd, T.fn, _, rfl, iteF ?_⟩
      refine ⟨_, h1, .ref CF, .ref CF, _, _, rfl, .own _, hd, T.ff, _, rfl, iteT ?_⟩
      exact ⟨_, h1, _, v, rfl, hd, rfl, v, dv, rfl, hv.1, hv.2.1, hv.2.2.1, hv.2.2.2, by show 2 ≤ 1000; decide, k⟩
  · refine ⟨fun c d H' => ToldC X.K CN CF c d H' Q, fun cls d σ' H' hT => ?_, rfl, hc, ?_⟩
    · refine ⟨true, ?_, fun _ a na hl => ?_, fun z => Bool.noConfusion z⟩
      · rcases hT with ⟨dd, v, dv, rfl, rest⟩ | ⟨dd, v, dv, rfl, rest⟩
        · exact T.sN.any
        · exact T.sF.any
      · exact ⟨List.getElem?_set_self (by rw [hl]; exact (show 1 < 2 by decide)), hT⟩
    · exact h
end
end K5
set_option Elab.async false
set_option linter.all false
set_option maxRecDepth 100000
set_option maxHeartbeats 8000000
namespace L2
open PySem PySem.Spec PyProof.Rows
theorem tuple_mulOne (l : Addr) (items : Array Value) (n : Nat) (dd : Option Addr) (sl : Array (Option Value)) (u : Tok) :
    Meets (Builtin.«tuple.__mul__» ⟨[.ref l, .int 1 u], []⟩) (fun _ R s => s.heap.get? l = some { cls := .type "tuple", dict := dd, data := .seq items n, slots := sl } ∧
      R (.ok (.ret (Value.ref l))) s) :=
  .of_wp fun prog w A R s h => by
    obtain ⟨hp, g, d, tk, os⟩ := s
    obtain ⟨hl, h⟩ := h
    have f1 := AutoSeq1.idx_int
    have c0 : (decide ((1 : Int) < -(2 ^ 63)) || decide ((1 : Int) ≥ 2 ^ 63)) = false := by decide
    have c1 : (items.isEmpty || (1 : Int) == 1) = true := by rw [show ((1 : Int) == 1) = true from rfl, Bool.or_true]
    wp_walk using wpAny_loadPart' hl
    repeat (first
      | (refine wpAny_ite_false (decide_eq_false (by rw [c0]; exact Bool.false_ne_true)) ?_; wp_walk using wpAny_loadPart' hl)
      | (refine wpAny_ite_true (decide_eq_true c1) ?_; wp_walk using wpAny_loadPart' hl))
    exact ⟨_, rfl, h⟩
def rRep1 (K : PySem.W.Frag) : R2 := fun x y H Q => ∃ l xs, x = .ref l ∧ y = .int 1 ∧ SqT K H l xs ∧ Q (.ref l) H
section
variable {X : Cx}
theorem op_rep1 : OpR X (binaryOp .Mult) (rRep1 X.K) := by
  intro pins s σ H x y v u Q I rx ry h
  obtain ⟨l, xs, rfl, rfl, hT, q⟩ := h
  cases rx
  obtain ⟨t, rfl⟩ := ry
  obtain ⟨its, r, ⟨⟨cls, dd, data, sl⟩, ho, hc, n, hd⟩, hs⟩ := I.tuple hT
  simp only at hc hd
  subst hc hd
  refine wpAny_binaryOp_repeat_ref (T := "tuple") (U := "int") (by decide) ⟨_, ho, rfl⟩ (fun s' => typeIs_int s' 1 t) noFill_tuple_mul F.fills_int_mul F.slot_int_rmul repeat_tuple F.slot_int_index.lookup
    (call_meets F.slot_int_rmul (typeIs_int s 1 t) F.entry_int_rmul (F.args_int_rmul_2 _ _) (int_rmul_tuple 1 t l its.toArray n dd sl)
      ⟨ho, rfl, ⟨_, ho, rfl⟩, call_meets F.slot_tuple_mul ⟨_, ho, rfl⟩ F.entry_tuple_mul (F.args_tuple_mul_2 _ _) (tuple_mulOne l its.toArray n dd sl t) ⟨ho, ?_⟩⟩)
  exact ⟨.ref l, H, I, rfl, q⟩
end
end L2
namespace L2
open PySem PySem.Spec PyProof.Rows
/-- a tuple some times, once at least -/
def rRepA (K : PySem.W.Frag) : R2 := fun x y H Q => ∃ l k xs, x = .ref l ∧ y = .int k ∧ SqT K H l xs ∧ xs ≠ [] ∧ 1 ≤ k ∧ k ≤ 1000 ∧ xs.length ≤ 1000 ∧ ∀ q H', (∀ b o, H b = some o → H' b = some o) → SqT K H' q (List.replicate k.toNat xs).flatten → Q (.ref q) H'
section
variable {X : Cx}
theorem op_repA : OpR X (binaryOp .Mult) (rRepA X.K) := by
  intro pins s σ H x y v u Q I rx ry h
  obtain ⟨l, k, xs, rfl, rfl, hT, hne, h1, h2, h3, q⟩ := h
  by_cases hk : k = 1
  · subst hk
    refine op_rep1 pins s σ H _ _ _ _ Q I rx ry ⟨l, xs, rfl, rfl, hT, q l H (fun _ _ e => e) ?_⟩
    show SqT X.K H l (xs ++ [])
    rw [List.append_nil]
    exact hT
  · refine op_repT pins s σ H _ _ _ _ Q I rx ry ⟨l, k, xs, rfl, rfl, hT, hne, by omega, h2, h3, fun p np => q p _ (fun b o e => ?_) (SqT.of upd_same)⟩
    rw [upd_ne (fun h => by rw [h, np] at e; cases e)]
    exact e
end
end L2
set_option Elab.async false
set_option linter.all false
set_option maxRecDepth 100000
set_option maxHeartbeats 8000000
namespace K5
open PySem PySem.Spec PyProof.Rows L2 Gd Rl Vd
open Pg (fD Wd2)
open Dd (Bd)
abbrev sOdd : Stmt := top 32
/-! ### values of any kind -/
def wdB : PyData → Bool
  | .tuple ds => decide (ds.length ≤ 1000) && ds.all fun x => match x with
    | .tuple es => decide (es.length ≤ 1000)
    | _ => true
  | _ => true
def twoB : PyData → Bool
  | .tuple ds => decide (4 < ds.length) || ds.all fun x => match x with
    | .int i => decide (i.natAbs < 4)
    | _ => true
  | _ => true
def okEB (e : PyData) : Bool := PyData.showable e && (decide (e.depth ≤ 20) && (decide (e.shown.length ≤ 1000) && (wdB e && twoB e)))
theorem wdB_ok {e : PyData} (h : wdB e = true) : Wd2 (noD e) := fun ds q => by
  cases e with
  | tuple es =>
    have : es = ds := PyData.tuple.inj q
    subst this
    obtain ⟨h1, h2⟩ := Bool.and_eq_true_iff.mp (show (decide (es.length ≤ 1000) && es.all _) = true from h)
    refine ⟨of_decide_eq_true h1, fun x hx ds e => ?_⟩
    have := List.all_eq_true.mp h2 x hx
    subst e
    exact of_decide_eq_true this
  | int i => cases q
  | bool i => cases q
  | none => cases q
  | str i => cases q
  | list i => cases q
  | dict i => cases q
/-- a form of a value is small -/
def Two (e : PyData) : Prop := ∀ g, e = fD g → g.length ≤ 4 → Bd 2 g
theorem okE_of {e : PyData} (h : okEB e = true) : OkE e ∧ Two e := by
  unfold okEB at h
  obtain ⟨h1, h⟩ := Bool.and_eq_true_iff.mp h
  obtain ⟨h2, h⟩ := Bool.and_eq_true_iff.mp h
  obtain ⟨h3, h⟩ := Bool.and_eq_true_iff.mp h
  obtain ⟨h4, h5⟩ := Bool.and_eq_true_iff.mp h
  refine ⟨⟨h1, of_decide_eq_true h2, of_decide_eq_true h3, wdB_ok h4⟩, ?_⟩
  rintro g rfl l z hz
  have h6 : (decide (4 < (g.map PyData.int).length) || (g.map PyData.int).all _) = true := h5
  rcases Bool.or_eq_true_iff.mp h6 with q | q
  · have := of_decide_eq_true q
    rw [List.length_map] at this
    omega
  · have := List.all_eq_true.mp q (.int z) (List.mem_map_of_mem hz)
    exact of_decide_eq_true this
def menuF (n : Nat) : List PyData := [.none, .bool true, .int 3, .str "", .list [], .tuple [], .tuple [.int 1], .tuple [.int 1, .int 2, .int 3, .int 4, .int 5], .list [.int 1, .int 2], .tuple [.int 1, .bool true], .tuple [.int 1, .none], .tuple [.str "1", .int 2], .tuple [.int 1, .tuple [.int 2]], .dict []] ++
  [fD (List.replicate (n + 1) 1), fD (List.replicate (n - 1) 1), fD (List.replicate n 2)]
theorem menu_fine {n : Nat} (h2 : 2 ≤ n) (h4 : n ≤ 4) : (menuF n).all okEB = true := by
  match n, h2, h4 with
  | 2, _, _ => decide +kernel
  | 3, _, _ => decide +kernel
  | 4, _, _ => decide +kernel
/-- v stands for a value that can be asked -/
def Thing (K : PySem.W.Frag) (H : Hp) (v : V) (e : PyData) : Prop := Rp K H v e ∧ OkE e ∧ Two e
theorem paired_at {K : PySem.W.Frag} {H : Hp} : ∀ {xs : List V} {ds : List PyData}, Paired (Rp K H) xs ds → ∀ {i : Nat} {x : V}, xs[i]? = some x → ∃ e, ds[i]? = some e ∧ Rp K H x e
  | _, _, .nil, i, x, e => by simp at e
  | _, _, .cons r t, 0, x, e => by
    simp at e
    subst e
    exact ⟨_, rfl, r⟩
  | _, _, .cons r t, i + 1, x, e => paired_at t (i := i) (by simpa using e)
theorem same_del2 {A B : Hp} {D : Addr} (s : Same A B) : Same (delH A D) (delH B D) := fun a o e => by
  by_cases h : a = D
  · rw [h, delH_same] at e
    cases e
  · rw [delH_ne h] at e ⊢
    exact s a o e
theorem pnil {K : PySem.W.Frag} {H : Hp} : Paired (Rp K H) [] [] := .nil
theorem pcons {K : PySem.W.Frag} {H : Hp} {v : V} {d : PyData} {vs : List V} {ds : List PyData} (h : Rp K H v d) (t : Paired (Rp K H) vs ds) : Paired (Rp K H) (v :: vs) (d :: ds) := .cons h t
theorem pcons2 {K : PySem.W.Frag} {H : Hp} {v : V} {d : PyData} {vs : List V} {ds : List PyData} (h : Dp K H v d) (t : Paired (Rp K H) vs ds) : Paired (Rp K H) (v :: vs) (d :: ds) := .cons (.inl h) t
theorem same_dels {p : Addr} {H H' : Hp} (b : But p H H') : Same (delH H p) (delH H' p) := fun a o e => by
  by_cases h : a = p
  · rw [h, delH_same] at e
    cases e
  · rw [delH_ne h] at e ⊢
    exact b a o e h
theorem del_at {p a : Addr} {H H0 H' : Hp} {o u : HO} (hp : H0 p = some u) (n : New H0 a o H) (s : Same H H') : delH H' p a = some o := by
  rw [delH_ne (ne_of_none hp n.1).symm]
  exact s _ _ n.2.1
def spOdd (K : PySem.W.Frag) : Sp := fun vs H Q _ => ∃ (p : Addr) (n : Nat), vs = [.ref p, .int n] ∧ Well H p ∧ 2 ≤ n ∧ n ≤ 4 ∧ ∀ (v : V) (e : PyData) (H' : Hp), Thing K (delH H' p) v e → (∀ D xs, H D = some (.lst xs) → Rp K (delH (delH H' p) D) v e) → Well H' p → But p H H' → Q v H'
theorem flat_rep {α : Type} (x : α) : ∀ k : Nat, (List.replicate k [x]).flatten = List.replicate k x
  | 0 => rfl
  | k + 1 => by
    rw [List.replicate_succ, List.flatten_cons, flat_rep x k]
    rfl
theorem dp_rep {K : PySem.W.Frag} {H : Hp} {q : Addr} {i : Int} {k : Nat} (h : SqT K H q (List.replicate k [V.int i]).flatten) : Dp K H (.ref q) (fD (List.replicate k i)) := by
  refine Pg.dp_ints ?_
  rw [List.map_replicate, ← flat_rep]
  exact h
section
variable {P : Program} {w : World} {K : PySem.W.Frag} {mg : Str → Option Value} {base : Heap} {f : Addr} {fd : FuncData}
abbrev nOdd : List Str := ["_law_well_here", "_law_size", "_law_menu"]
theorem scOdd : FnScope nOdd ["_law_well_here", "_law_size"] (defScope sOdd) := ⟨rfl, rfl, rfl, by decide +kernel, rfl, by decide +kernel, by decide +kernel⟩
theorem ok_odd {fA fC : Addr} {fdA fdC : FuncData} (F : FnP K "_law_odd" sOdd f fd) (T : Bl mg) (FA : FnP K "_law_pick" sPick fA fdA) (gA : mg "_law_pick" = some (.ref fA)) (FC : FnP K "_law_draw" sDraw fC fdC) (gC : mg "_law_draw" = some (.ref fC)) : FnOk P w K mg base CX0 3 f fd ["_law_well_here", "_law_size"] (spOdd K) := by
  have GA : FnOk P w K mg base CX0 2 fA fdA ["_law_well_here", "_law_choices"] (spPick K) := ok_pick FA T FC gC
  have bA : Binds K fdA ["_law_well_here", "_law_choices"] [] := FA.bindsN fun _ _ _ _ _ _ us hl => match us, hl with | [_, _], _ => rfl
  refine F.ok scOdd (fun vs H Q E h => ?_) (fun cdv A outer s H vs Q E hr h => ?_)
  · obtain ⟨p, n, rfl, _⟩ := h
    rfl
  · obtain ⟨p, n, rfl, hp, h2, h4, k⟩ := h
    refine ⟨_, PSs.nox <| pss_cons (ps_set (i := 2) scOdd.nd rfl (.inl rfl) (pe_lstR <| pa_cons pe_non <| pa_cons pe_bl <| pa_cons pe_int <| pa_cons pe_str <| pa_cons (pe_lstR pa_nil) <| pa_cons (pe_tupR pa_nil) <| pa_cons (pe_tupR <| pa_cons pe_int pa_nil) <| pa_cons (pe_tupR <| pa_cons pe_int <| pa_cons pe_int <| pa_cons pe_int <| pa_cons pe_int <| pa_cons pe_int pa_nil)
        <| pa_cons (pe_lstR <| pa_cons pe_int <| pa_cons pe_int pa_nil) <| pa_cons (pe_tupR <| pa_cons pe_int <| pa_cons pe_bl pa_nil) <| pa_cons (pe_tupR <| pa_cons pe_int <| pa_cons pe_non pa_nil) <| pa_cons (pe_tupR <| pa_cons pe_str <| pa_cons pe_int pa_nil) <| pa_cons (pe_tupR <| pa_cons pe_int <| pa_cons (pe_tupR <| pa_cons pe_int pa_nil) pa_nil) <| pa_cons pe_dnewR pa_nil))
      <| pss_one (ps_ret (pe_call GA hr (by rfl) gA FA.kp bA .nil pass0 (pa_cons (pv 0) (pa_cons (pe_op op_catR (pv 2) (pe_lstR <| pa_cons (pe_op op_repA (pe_tupR <| pa_cons pe_int pa_nil) (pe_op op_add (pv 1) pe_int)) <| pa_cons (pe_op op_repA (pe_tupR <| pa_cons pe_int pa_nil) (pe_op op_sub (pv 1) pe_int)) <| pa_cons (pe_op op_repA (pe_tupR <| pa_cons pe_int pa_nil) (pv 1)) pa_nil)) pa_nil)))), ?_⟩
    have dl : ∀ {n : Nat}, decide (n ≤ 1000) = true → n ≤ 1000 := fun h => of_decide_eq_true h
    refine ⟨dl rfl, fun l1 H1 n1 => ⟨dl rfl, fun a2 H2 n2 => ⟨dl rfl, fun a3 H3 n3 => ⟨dl rfl, fun a4 H4 n4 => ⟨dl rfl, fun l5 H5 n5 => ⟨dl rfl, fun a6 H6 n6 => ⟨dl rfl, fun a7 H7 n7 => ⟨dl rfl, fun a8 H8 n8 => ⟨dl rfl, fun a9 H9 n9 => ⟨dl rfl, fun a10 H10 n10 => fun d11 H11 n11 => ⟨dl rfl, fun l12 H12 n12 => ?_⟩⟩⟩⟩⟩⟩⟩⟩⟩⟩⟩
    refine ⟨_, rfl, _, rfl, ⟨dl rfl, fun b1 G1 m1 => ?_⟩⟩
    refine ⟨_, rfl, _, _, rfl, rfl, b1, (n : Int) + 1, [.int 1], rfl, rfl, SqT.of m1.2.1, by simp, by omega, by omega, dl rfl, fun q1 G2 t1 hq1 => ?_⟩
    refine ⟨dl rfl, fun b2 G3 m2 => ?_⟩
    refine ⟨_, rfl, _, _, rfl, rfl, b2, (n : Int) - 1, [.int 1], rfl, rfl, SqT.of m2.2.1, by simp, by omega, by omega, dl rfl, fun q2 G4 t2 hq2 => ?_⟩
    refine ⟨dl rfl, fun b3 G5 m3 => ?_⟩
    refine ⟨_, rfl, b3, (n : Int), [.int 2], rfl, rfl, SqT.of m3.2.1, by simp, by omega, by omega, dl rfl, fun q3 G6 t3 hq3 => ?_⟩
    refine ⟨dl rfl, fun l13 G7 m7 => ?_⟩
    have sA : Same H12 G7 := ((((((m1.2.2.trans t1).trans m2.2.2).trans t2).trans m3.2.2).trans t3).trans m7.2.2)
    have s11 := n12.2.2.trans sA
    refine ⟨l12, l13, _, _, rfl, rfl, sA _ _ n12.2.1, m7.2.1, dl rfl, fun l14 G8 m8 => ?_⟩
    obtain ⟨st, c, o, q0, _⟩ := id hp
    have s12 := sA.trans m8.2.2
    have s11 := n12.2.2.trans s12
    have s10 := n11.2.2.trans s11
    have s9 := n10.2.2.trans s10
    have s8 := n9.2.2.trans s9
    have s7 := n8.2.2.trans s8
    have s6 := n7.2.2.trans s7
    have s5 := n6.2.2.trans s6
    have s4 := n5.2.2.trans s5
    have s3 := n4.2.2.trans s4
    have s2 := n3.2.2.trans s3
    have s1 := n2.2.2.trans s2
    have s0 := n1.2.2.trans s1
    have r4 := ((n1.2.2.trans n2.2.2).trans n3.2.2).trans n4.2.2
    have r10 := ((((r4.trans n5.2.2).trans n6.2.2).trans n7.2.2).trans n8.2.2).trans (n9.2.2.trans n10.2.2)
    have fr5 : H l5 = none := r4.free n5.1
    have fr11 : H d11 = none := r10.free n11.1
    have all : ∀ Z : Hp, Pg.Nl G8 Z → Z l1 = some (.lst []) → Z l5 = some (.lst [.int 1, .int 2]) → Z d11 = some (.dK []) → Paired (Rp K Z) _ (menuF n) := fun Z nl e1 e5 e11 => by
      have tu : ∀ {a : Addr} {xs : List V}, G8 a = some (.tup xs) → SqT K Z a xs := fun e => Pg.seqT_nl nl (SqT.of e)
      have u2 := tu (s2 _ _ n2.2.1)
      have u3 := tu (s3 _ _ n3.2.1)
      have u4 := tu (s4 _ _ n4.2.1)
      have u6 := tu (s6 _ _ n6.2.1)
      have u7 := tu (s7 _ _ n7.2.1)
      have u8 := tu (s8 _ _ n8.2.1)
      have u9 := tu (s9 _ _ n9.2.1)
      have u10 := tu (s10 _ _ n10.2.1)
      have g1 := dp_rep (Pg.seqT_nl nl (Same.seqT (((((m2.2.2.trans t2).trans m3.2.2).trans t3).trans m7.2.2).trans m8.2.2) hq1))
      have g2 := dp_rep (Pg.seqT_nl nl (Same.seqT (((m3.2.2.trans t3).trans m7.2.2).trans m8.2.2) hq2))
      have g3 := dp_rep (Pg.seqT_nl nl (Same.seqT (m7.2.2.trans m8.2.2) hq3))
      rw [show ((n : Int) + 1).toNat = n + 1 by omega] at g1
      rw [show ((n : Int) - 1).toNat = n - 1 by omega] at g2
      rw [show ((n : Int)).toNat = n by omega] at g3
      exact (pcons2 .non <| pcons2 (.bl true) <| pcons2 (.int 3) <| pcons2 (.str "") <| pcons2 (.lst (.of e1) .nil) <| pcons2 (.tup u2 .nil) <| pcons2 (.tup u3 (.cons (.int 1) .nil)) <| pcons2 (.tup u4 (.cons (.int 1) (.cons (.int 2) (.cons (.int 3) (.cons (.int 4) (.cons (.int 5) .nil))))))
        <| pcons2 (.lst (.of e5) (.cons (.int 1) (.cons (.int 2) .nil))) <| pcons2 (.tup u6 (.cons (.int 1) (.cons (.bl true) .nil))) <| pcons2 (.tup u7 (.cons (.int 1) (.cons .non .nil))) <| pcons2 (.tup u8 (.cons (.str "1") (.cons (.int 2) .nil))) <| pcons2 (.tup u10 (.cons (.int 1) (.cons (.tup u9 (.cons (.int 2) .nil)) .nil)))
        <| pcons (.inr ⟨d11, [], [], rfl, e11, .nil, rfl⟩) <| pcons2 g1 <| pcons2 g2 <| pcons2 g3 pnil)
    refine ⟨p, l14, _, rfl, hp.same s0, m8.2.1, (ne_of_none (((r10.trans n11.2.2).trans (n12.2.2.trans sA)) _ _ q0) m8.1).symm, ?_, ?_, fun i x H' ei hp' bt => ?_⟩
    · show 0 < 17
      decide
    · show 17 ≤ 1000
      decide
    · have nl0 : Pg.Nl G8 (delH G8 p) := Pg.nl_del (s0 _ _ q0)
      have e1 := del_at q0 n1 s1
      have e5 := del_at (r4 _ _ q0) n5 s5
      have e11 := del_at (r10 _ _ q0) n11 s11
      obtain ⟨e, ee, hx⟩ := paired_at (all (delH G8 p) nl0 e1 e5 e11) ei
      obtain ⟨h1, h2'⟩ := okE_of (List.all_eq_true.mp (menu_fine h2 h4) e (List.mem_of_getElem? ee))
      refine k x e H' ⟨Rl.rp_same (same_dels bt) hx, h1, h2'⟩ (fun D xs hD => ?_) hp' fun b u e nb => bt b u (s0 b u e) nb
      have nlD : Pg.Nl G8 (delH (delH G8 p) D) := fun b o eb nb => by
        have hb := nl0 b o eb nb
        rw [delH_ne (fun q => by rw [q, s0 _ _ hD] at eb; cases eb; exact nb _ rfl)]
        exact hb
      have f1 : delH (delH G8 p) D l1 = some (.lst []) := by rw [delH_ne (ne_of_none hD n1.1).symm]; exact e1
      have f5 : delH (delH G8 p) D l5 = some (.lst [.int 1, .int 2]) := by rw [delH_ne (ne_of_none hD fr5).symm]; exact e5
      have f11 : delH (delH G8 p) D d11 = some (.dK []) := by rw [delH_ne (ne_of_none hD fr11).symm]; exact e11
      obtain ⟨e', ee', hx'⟩ := paired_at (all (delH (delH G8 p) D) nlD f1 f5 f11) ei
      have : e' = e := by
        rw [ee] at ee'
        exact (Option.some.inj ee').symm
      subst this
      exact Rl.rp_same (same_del2 (same_dels bt)) hx'
end
end K5
set_option Elab.async false
set_option linter.all false
set_option maxRecDepth 100000
set_option maxHeartbeats 8000000
set_option exponentiation.threshold 10000
namespace Dd
open Rl Pg
/-! ### sums -/
theorem sum_lin (k : Nat) (f g h : Nat → Int) (c d : Int) (e : ∀ i, i < k → f i = c * g i + d * h i) : ((List.range k).map f).sum = c * ((List.range k).map g).sum + d * ((List.range k).map h).sum := by
  induction k with
  | zero => simp
  | succ k ih =>
    simp only [List.range_succ, List.map_append, List.sum_append, List.map_cons, List.map_nil, List.sum_cons, List.sum_nil, Int.add_zero]
    rw [ih (fun i hi => e i (by omega)), e k (by omega)]
    rw [Int.mul_add, Int.mul_add]
    omega
theorem comb_getD {hi va : Int} {a u : List Int} {i : Nat} (h : i < a.length) : (combF hi va a u).getD i 0 = hi * a.getD i 0 - va * u.getD i 0 := by
  unfold combF
  rw [List.getD_eq_getElem?_getD, List.getElem?_map, List.getElem?_range h]
  rfl
theorem comb_len (hi va : Int) (a u : List Int) : (combF hi va a u).length = a.length := by simp [combF]
theorem dot_comb {hi va : Int} {a u t : List Int} (l : a.length = u.length) : dot t (combF hi va a u) = hi * dot t a - va * dot t u := by
  unfold dot
  rw [comb_len, ← l]
  rw [sum_lin a.length (fun i => t.getD i 0 * (combF hi va a u).getD i 0) (fun i => t.getD i 0 * a.getD i 0) (fun i => t.getD i 0 * u.getD i 0) hi (-va)]
  · rw [Int.neg_mul]; omega
  · intro i hi2
    rw [comb_getD hi2, Int.mul_sub, Int.mul_left_comm, Int.mul_left_comm _ va, Int.neg_mul]
    omega
theorem low_len (g : List Int) : (lowF g).length = g.length := by simp [lowF]
theorem low_getD {g : List Int} {i : Nat} (h : i < g.length) : (gcdF g : Int) * (lowF g).getD i 0 = g.getD i 0 := by
  unfold lowF
  rw [List.getD_eq_getElem?_getD, List.getElem?_map, List.getElem?_eq_getElem h, List.getD_eq_getElem?_getD, List.getElem?_eq_getElem h]
  exact Int.mul_ediv_cancel' (gcd_dvd (List.getElem_mem h))
theorem dot_low (t g : List Int) : (gcdF g : Int) * dot t (lowF g) = dot t g := by
  unfold dot
  rw [low_len]
  have := sum_lin g.length (fun i => t.getD i 0 * g.getD i 0) (fun i => t.getD i 0 * (lowF g).getD i 0) (fun _ => 0) (gcdF g : Int) 0 (fun i hi => by
    rw [← low_getD hi, Int.mul_left_comm]
    omega)
  rw [this]
  omega
theorem neg_getD {g : List Int} {i : Nat} (h : i < g.length) : (negF g).getD i 0 = -(g.getD i 0) := by
  unfold negF
  rw [List.getD_eq_getElem?_getD, List.getElem?_map, List.getElem?_eq_getElem h, List.getD_eq_getElem?_getD, List.getElem?_eq_getElem h]
  rfl
theorem dot_neg (t g : List Int) : dot t (negF g) = -dot t g := by
  unfold dot
  rw [neg_len]
  have := sum_lin g.length (fun i => t.getD i 0 * (negF g).getD i 0) (fun i => t.getD i 0 * g.getD i 0) (fun _ => 0) (-1) 0 (fun i hi => by
    rw [neg_getD hi, Int.mul_neg]
    omega)
  rw [this]
  omega
theorem dot_up {t a s : List Int} : dot s (upF a t) = dot s a ∨ dot s (upF a t) = -dot s a := by
  unfold upF
  split
  · exact .inr (dot_neg s a)
  · exact .inl rfl
theorem up_pos {t a : List Int} (h : dot t a ≠ 0) : 0 < dot t (upF a t) := by
  unfold upF
  split
  · rw [dot_neg]; omega
  · omega
theorem up_zero {a t : List Int} {i : Nat} (h : a.getD i 0 = 0) : (upF a t).getD i 0 = 0 := by
  unfold upF
  split
  · unfold negF
    rw [List.getD_eq_getElem?_getD, List.getElem?_map]
    rw [List.getD_eq_getElem?_getD] at h
    cases q : a[i]? with
    | none => rfl
    | some z =>
      rw [q] at h
      show -z = 0
      have : z = 0 := h
      omega
  · exact h
/-- not all nothing -/
theorem gcd_of_dot {t g : List Int} (h : dot t g ≠ 0) : 0 < gcdF g := by
  by_cases hz : ∃ z ∈ g, z ≠ 0
  · obtain ⟨z, hz, h0⟩ := hz
    exact gcd_pos hz h0
  · refine absurd ?_ h
    unfold dot
    have := sum_lin g.length (fun i => t.getD i 0 * g.getD i 0) (fun _ => 0) (fun _ => 0) 0 0 (fun i hi => by
      have : g.getD i 0 = 0 := Classical.byContradiction fun q => hz ⟨_, getD_mem hi, q⟩
      rw [this]
      omega)
    rw [this]
    omega
theorem gcd_of_at {g : List Int} {i : Nat} (hi : i < g.length) (h : g.getD i 0 ≠ 0) : 0 < gcdF g := gcd_pos (getD_mem hi) h
theorem low_pos {t g : List Int} (h0 : 0 < gcdF g) : (0 < dot t g ↔ 0 < dot t (lowF g)) ∧ (dot t g = 0 ↔ dot t (lowF g) = 0) ∧ (0 ≤ dot t g ↔ 0 ≤ dot t (lowF g)) := by
  have e := dot_low t g
  have hp : (0 : Int) < (gcdF g : Int) := by omega
  refine ⟨?_, ?_, ?_⟩
  · rw [← e]
    exact ⟨fun h => Int.pos_of_mul_pos_right h (by omega), fun h => Int.mul_pos hp h⟩
  · rw [← e]
    exact ⟨fun h => (Int.mul_eq_zero.mp h).resolve_left (by omega), fun h => by rw [h]; omega⟩
  · rw [← e]
    exact ⟨fun h => by
      rcases Int.lt_or_le (dot t (lowF g)) 0 with q | q
      · have := Int.mul_neg_of_pos_of_neg hp q
        omega
      · exact q, fun h => Int.mul_nonneg (by omega) h⟩
theorem low_bd {b : Nat} {g : List Int} (h : Bd b g) : Bd b (lowF g) := fun z hz => by
  obtain ⟨y, hy, rfl⟩ := List.mem_map.mp hz
  refine Nat.lt_of_le_of_lt ?_ (h y hy)
  exact Int.natAbs_ediv_le_natAbs y _
end Dd
set_option Elab.async false
set_option linter.all false
set_option maxRecDepth 100000
set_option maxHeartbeats 8000000
set_option exponentiation.threshold 10000
namespace Dd
open Rl Pg
/-! ### what stays true of lines and arrows -/
structure Inv (n : Nat) (s : St) : Prop where
  ll : Ln n s.ls
  lf : Ln n s.fs
  z : ∀ l ∈ s.ls, ∀ t ∈ s.ds, dot t l = 0
  f : ∀ a ∈ s.fs, (∀ t ∈ s.ds, 0 ≤ dot t a) ∧ ∃ t ∈ s.ds, 0 < dot t a
  p : ∀ l ∈ s.ls, ∃ i, i < n ∧ l.getD i 0 ≠ 0 ∧ ∀ k ∈ s.ls, k ≠ l → k.getD i 0 = 0
theorem acr_mem {ls : List (List Int)} {t a : List Int} {r : List (List Int)} (h : acrF ls t = a :: r) : a ∈ ls ∧ dot t a ≠ 0 := by
  have : a ∈ acrF ls t := by rw [h]; exact List.mem_cons_self ..
  obtain ⟨h1, h2⟩ := List.mem_filter.mp this
  refine ⟨h1, fun e => ?_⟩
  rw [decide_eq_true e] at h2
  cases h2
theorem acr_nil {ls : List (List Int)} {t : List Int} (h : acrF ls t = []) : ∀ l ∈ ls, dot t l = 0 := fun l hl => Classical.byContradiction fun q => by
  have : l ∈ acrF ls t := List.mem_filter.mpr ⟨hl, by rw [decide_eq_false q]; rfl⟩
  rw [h] at this
  cases this
section
variable {n : Nat} {s : St} {t : List Int}
/-- a line brought to the level is none at its own place -/
theorem lev_line (I : Inv n s) {a l : List Int} (ha : a ∈ s.ls) (hl : l ∈ s.ls) (hne : l ≠ a) (h0 : dot t a ≠ 0) : ∃ i, i < n ∧ l.getD i 0 ≠ 0 ∧ (combF (dot t (upF a t)) (dot t l) l (upF a t)).getD i 0 ≠ 0 ∧ ∀ k ∈ s.ls, k ≠ l → k ≠ a → (combF (dot t (upF a t)) (dot t k) k (upF a t)).getD i 0 = 0 := by
  obtain ⟨i, hi, h1, h2⟩ := I.p l hl
  have ua : (upF a t).getD i 0 = 0 := up_zero (h2 a ha (fun e => hne e.symm))
  have up := up_pos h0
  refine ⟨i, hi, h1, ?_, fun k hk k1 k2 => ?_⟩
  · rw [comb_getD (by rw [I.ll l hl]; exact hi), ua, Int.mul_zero, Int.sub_zero]
    exact Int.mul_ne_zero (by omega) h1
  · rw [comb_getD (by rw [I.ll k hk]; exact hi), ua, Int.mul_zero, Int.sub_zero, h2 k hk k1, Int.mul_zero]
theorem lev_arrow (I : Inv n s) {a f : List Int} (ha : a ∈ s.ls) (hf : f ∈ s.fs) : (∀ u ∈ s.ds, dot u (combF (dot t (upF a t)) (dot t f) f (upF a t)) = dot t (upF a t) * dot u f) := fun u hu => by
  rw [dot_comb (by rw [I.lf f hf, up_len, I.ll a ha])]
  have : dot u (upF a t) = 0 := by
    rcases dot_up (s := u) (a := a) (t := t) with e | e <;> rw [e, I.z a ha u hu]
    rfl
  rw [this, Int.mul_zero, Int.sub_zero]
theorem lev_pair (I : Inv n s) {u d : List Int} (hu : u ∈ s.fs) (hd : d ∈ s.fs) (h1 : 0 < dot t u) (h2 : dot t d < 0) :
    (∀ c ∈ s.ds, 0 ≤ dot c (combF (dot t u) (dot t d) d u)) ∧ (∃ c ∈ s.ds, 0 < dot c (combF (dot t u) (dot t d) d u)) ∧ dot t (combF (dot t u) (dot t d) d u) = 0 := by
  have l : d.length = u.length := by rw [I.lf d hd, I.lf u hu]
  have key : ∀ c ∈ s.ds, 0 ≤ dot t u * dot c d ∧ 0 ≤ (-dot t d) * dot c u := fun c hc => ⟨Int.mul_nonneg (by omega) ((I.f d hd).1 c hc), Int.mul_nonneg (by omega) ((I.f u hu).1 c hc)⟩
  refine ⟨fun c hc => ?_, ?_, ?_⟩
  · rw [dot_comb l]
    have := key c hc
    rw [Int.neg_mul] at this
    omega
  · obtain ⟨c, hc, hp⟩ := (I.f d hd).2
    refine ⟨c, hc, ?_⟩
    rw [dot_comb l]
    have h3 := (key c hc).2
    rw [Int.neg_mul] at h3
    have := Int.mul_pos h1 hp
    omega
  · rw [dot_comb l, Int.mul_comm]
    omega
theorem inv_ok (I : Inv n s) : CutOk s.ls s.fs s.ds t := by
  unfold CutOk
  cases h : acrF s.ls t with
  | nil =>
    intro i j hi hj h1 h2
    obtain ⟨_, ⟨c, hc, hp⟩, _⟩ := lev_pair I (gD_mem hi) (gD_mem hj) h1 h2
    exact gcd_of_dot (t := c) (by omega)
  | cons a r =>
    obtain ⟨ha, h0⟩ := acr_mem h
    refine ⟨fun l hl hne => ?_, fun f hf => ?_⟩
    · obtain ⟨i, hi, _, h1, _⟩ := lev_line (t := t) I ha hl hne h0
      exact gcd_of_at (by rw [comb_len, I.ll l hl]; exact hi) h1
    · obtain ⟨c, hc, hp⟩ := (I.f f hf).2
      have := lev_arrow (t := t) I ha hf c hc
      refine gcd_of_dot (t := c) ?_
      rw [this]
      exact Int.mul_ne_zero (by have := up_pos h0; omega) (by omega)
theorem lev_len (a u t : List Int) : (levF a u t).length = a.length := by
  unfold levF
  rw [low_len, comb_len]
theorem low_at {g : List Int} {i : Nat} (h0 : 0 < gcdF g) (hi : i < g.length) : (lowF g).getD i 0 = 0 ↔ g.getD i 0 = 0 := by
  have e := low_getD hi
  constructor
  · intro h
    rw [← e, h, Int.mul_zero]
  · intro h
    rw [h] at e
    exact (Int.mul_eq_zero.mp e).resolve_left (by omega)
theorem inv_next (I : Inv n s) (lt : t.length = n) : Inv n (s.next t) := by
  have ok : CutOk s.ls s.fs s.ds t := inv_ok I
  unfold CutOk at ok
  cases h : acrF s.ls t with
  | nil =>
    rw [h] at ok
    have z0 := acr_nil h
    have e1 : (s.next t).ls = s.ls := by show cutL s.ls t = _; unfold cutL; rw [h]
    have e2 : (s.next t).fs = cutA s.fs s.ds t := by show cutF s.ls s.fs s.ds t = _; unfold cutF; rw [h]
    have e3 : (s.next t).ds = s.ds ++ [t] := rfl
    have mem : ∀ a ∈ cutA s.fs s.ds t, (a ∈ s.fs ∧ 0 ≤ dot t a) ∨ ∃ u d, u ∈ s.fs ∧ d ∈ s.fs ∧ 0 < dot t u ∧ dot t d < 0 ∧ a = levF d u t ∧ 0 < gcdF (combF (dot t u) (dot t d) d u) := fun a ha => by
      rcases List.mem_append.mp ha with ha | ha
      · obtain ⟨h1, h2⟩ := List.mem_filter.mp ha
        exact .inl ⟨h1, of_decide_eq_true h2⟩
      · obtain ⟨i, hi, hr⟩ := List.mem_flatMap.mp ha
        obtain ⟨j, hj, rfl⟩ := List.mem_map.mp hr
        obtain ⟨hj1, hj2⟩ := List.mem_filter.mp hj
        unfold condF at hj2
        obtain ⟨c1, c2⟩ := Bool.and_eq_true_iff.mp hj2
        obtain ⟨c3, _⟩ := Bool.and_eq_true_iff.mp c2
        have q1 := of_decide_eq_true c1
        have q2 := of_decide_eq_true c3
        have i1 := List.mem_range.mp hi
        have j1 := List.mem_range.mp hj1
        exact .inr ⟨_, _, gD_mem i1, gD_mem j1, q1, q2, rfl, ok i j i1 j1 q1 q2⟩
    refine ⟨by rw [e1]; exact I.ll, ?_, ?_, ?_, by rw [e1]; exact I.p⟩
    · rw [e2]
      intro a ha
      rcases mem a ha with ⟨h1, _⟩ | ⟨u, d, hu, hd, _, _, rfl, _⟩
      · exact I.lf a h1
      · rw [lev_len, I.lf d hd]
    · rw [e1, e3]
      intro l hl c hc
      rcases List.mem_append.mp hc with hc | hc
      · exact I.z l hl c hc
      · rw [List.mem_singleton.mp hc]
        exact z0 l hl
    · rw [e2, e3]
      intro a ha
      rcases mem a ha with ⟨h1, h2⟩ | ⟨u, d, hu, hd, h1, h2, rfl, g0⟩
      · obtain ⟨f1, c, hc, f2⟩ := I.f a h1
        refine ⟨fun c hc => ?_, c, List.mem_append_left _ hc, f2⟩
        rcases List.mem_append.mp hc with hc | hc
        · exact f1 c hc
        · rw [List.mem_singleton.mp hc]
          exact h2
      · obtain ⟨p1, ⟨c, hc, p2⟩, p3⟩ := lev_pair (t := t) I hu hd h1 h2
        refine ⟨fun c hc => ?_, c, List.mem_append_left _ hc, (low_pos g0).1.mp p2⟩
        rcases List.mem_append.mp hc with hc | hc
        · exact (low_pos g0).2.2.mp (p1 c hc)
        · rw [List.mem_singleton.mp hc]
          exact (low_pos g0).2.2.mp (by omega)
  | cons a r =>
    rw [h] at ok
    obtain ⟨ha, h0⟩ := acr_mem h
    have la := I.ll a ha
    have up := up_pos h0
    have e1 : (s.next t).ls = lvlL s.ls a t := by show cutL s.ls t = _; unfold cutL; rw [h]
    have e2 : (s.next t).fs = lvlA s.fs a t := by show cutF s.ls s.fs s.ds t = _; unfold cutF; rw [h]
    have e3 : (s.next t).ds = s.ds ++ [t] := rfl
    have memL : ∀ l ∈ lvlL s.ls a t, ∃ k ∈ s.ls, k ≠ a ∧ l = levF k (upF a t) t := fun l hl => by
      obtain ⟨k, hk, rfl⟩ := List.mem_map.mp hl
      obtain ⟨k1, k2⟩ := List.mem_filter.mp hk
      refine ⟨k, k1, fun e => ?_, rfl⟩
      rw [decide_eq_true e] at k2
      cases k2
    have upz : ∀ c ∈ s.ds, dot c (upF a t) = 0 := fun c hc => by
      rcases dot_up (s := c) (a := a) (t := t) with e | e <;> rw [e, I.z a ha c hc]
      rfl
    have lvl0 : ∀ g : List Int, g.length = n → dot t (combF (dot t (upF a t)) (dot t g) g (upF a t)) = 0 := fun g hg => by
      rw [dot_comb (by rw [hg, up_len, la]), Int.mul_comm]
      omega
    refine ⟨?_, ?_, ?_, ?_, ?_⟩
    · rw [e1]
      intro l hl
      obtain ⟨k, hk, _, rfl⟩ := memL l hl
      rw [lev_len, I.ll k hk]
    · rw [e2]
      intro f hf
      rcases List.mem_append.mp hf with hf | hf
      · obtain ⟨g, hg, rfl⟩ := List.mem_map.mp hf
        rw [lev_len, I.lf g hg]
      · rw [List.mem_singleton.mp hf, up_len, la]
    · rw [e1, e3]
      intro l hl c hc
      obtain ⟨k, hk, hne, rfl⟩ := memL l hl
      refine (low_pos (ok.1 k hk hne)).2.1.mp ?_
      rcases List.mem_append.mp hc with hc | hc
      · rw [dot_comb (by rw [I.ll k hk, up_len, la]), I.z k hk c hc, upz c hc, Int.mul_zero, Int.mul_zero]
        rfl
      · rw [List.mem_singleton.mp hc]
        exact lvl0 k (I.ll k hk)
    · rw [e2, e3]
      intro f hf
      rcases List.mem_append.mp hf with hf | hf
      · obtain ⟨g, hg, rfl⟩ := List.mem_map.mp hf
        have g0 := ok.2 g hg
        have lv := lev_arrow (t := t) I ha hg
        obtain ⟨f1, c, hc, f2⟩ := I.f g hg
        refine ⟨fun c hc => ?_, c, List.mem_append_left _ hc, (low_pos g0).1.mp (by rw [lv c hc]; exact Int.mul_pos up f2)⟩
        refine (low_pos g0).2.2.mp ?_
        rcases List.mem_append.mp hc with hc | hc
        · rw [lv c hc]
          exact Int.mul_nonneg (by omega) (f1 c hc)
        · rw [List.mem_singleton.mp hc, lvl0 g (I.lf g hg)]
          omega
      · rw [List.mem_singleton.mp hf]
        refine ⟨fun c hc => ?_, t, List.mem_append_right _ (List.mem_singleton.mpr rfl), up⟩
        rcases List.mem_append.mp hc with hc | hc
        · rw [upz c hc]
          omega
        · rw [List.mem_singleton.mp hc]
          omega
    · rw [e1]
      intro l hl
      obtain ⟨k, hk, hne, rfl⟩ := memL l hl
      obtain ⟨i, hi, _, h1, h2⟩ := lev_line (t := t) I ha hk hne h0
      have gk := ok.1 k hk hne
      refine ⟨i, hi, fun e => h1 ((low_at gk (by rw [comb_len, I.ll k hk]; exact hi)).mp e), fun l2 hl2 hne2 => ?_⟩
      obtain ⟨k2, hk2, hnea, rfl⟩ := memL l2 hl2
      have gk2 := ok.1 k2 hk2 hnea
      exact (low_at gk2 (by rw [comb_len, I.ll k2 hk2]; exact hi)).mpr (h2 k2 hk2 (fun e => hne2 (by rw [e])) hnea)
end
end Dd
set_option Elab.async false
set_option linter.all false
set_option maxRecDepth 100000
set_option maxHeartbeats 8000000
set_option exponentiation.threshold 10000
namespace Dd
open Rl Pg
/-! ### how many arrows -/
theorem split_len {α : Type} (p : α → Bool) : ∀ L : List α, (L.filter p).length + (L.filter fun x => !p x).length = L.length
  | [] => rfl
  | x :: L => by
    have := split_len p L
    cases h : p x <;> simp [List.filter_cons, h] <;> omega
theorem nodup_bits : ∀ (m : Nat) (L : List (List Bool)), L.Nodup → (∀ x ∈ L, x.length = m) → L.length ≤ 2 ^ m
  | 0, L, h, hl => by
    match L, h, hl with
    | [], _, _ => simp
    | [x], _, _ => simp
    | x :: y :: r, h, hl =>
      have hx : x = [] := List.length_eq_zero_iff.mp (hl x (by simp))
      have hy : y = [] := List.length_eq_zero_iff.mp (hl y (by simp))
      exact absurd (List.rel_of_pairwise_cons h (List.mem_cons_self ..)) (by rw [hx, hy]; exact fun q => q rfl)
  | m + 1, L, h, hl => by
    have key : ∀ b : Bool, (L.filter fun x => x.headD false == b).length ≤ 2 ^ m := fun b => by
      have hn : ((L.filter fun x => x.headD false == b).map List.tail).Nodup := by
        refine List.pairwise_map.mpr ?_
        refine List.Pairwise.imp_of_mem (R := (· ≠ ·)) ?_ (List.Pairwise.filter _ h)
        intro x y hx hy hne he
        obtain ⟨x1, x2⟩ := List.mem_filter.mp hx
        obtain ⟨y1, y2⟩ := List.mem_filter.mp hy
        have lx := hl x x1
        have ly := hl y y1
        match x, y, lx, ly, x2, y2, he, hne with
        | a :: r, c :: u, _, _, x2, y2, he, hne =>
          have e1 : a = b := beq_iff_eq.mp x2
          have e2 : c = b := beq_iff_eq.mp y2
          have e3 : r = u := he
          exact hne (by rw [e1, e2, e3])
      have := nodup_bits m _ hn (fun x hx => by
        obtain ⟨y, hy, rfl⟩ := List.mem_map.mp hx
        rw [List.length_tail, hl y (List.mem_filter.mp hy).1]
        rfl)
      rwa [List.length_map] at this
    have e := split_len (fun x : List Bool => x.headD false == true) L
    have k1 := key true
    have k2 := key false
    have e2 : (L.filter fun x => !(x.headD false == true)) = L.filter fun x => x.headD false == false := by
      apply List.filter_congr
      intro x _
      cases x.headD false <;> rfl
    rw [e2] at e
    rw [Nat.pow_succ]
    omega
def prsF (fs ds : List (List Int)) (t : List Int) : List (Nat × Nat) := (List.range fs.length).flatMap fun i => (kept (condF fs ds t i) fs.length).map fun j => (i, j)
def maskF (fs ds : List (List Int)) (p : Nat × Nat) : List Bool := ds.map fun c => decide (dot c (fs.getD p.1 []) = 0) && decide (dot c (fs.getD p.2 []) = 0)
theorem new_prs (fs ds : List (List Int)) (t : List Int) : (newF fs ds t fs.length).length = (prsF fs ds t).length := by
  have : newF fs ds t fs.length = (prsF fs ds t).map fun p => levF (fs.getD p.2 []) (fs.getD p.1 []) t := by
    unfold newF prsF rowF
    rw [List.map_flatMap]
    congr 1
    funext i
    rw [List.map_map]
    rfl
  rw [this, List.length_map]
theorem kept_nodup (b : Nat → Bool) (n : Nat) : (kept b n).Nodup := List.Pairwise.filter _ List.nodup_range
theorem prs_mem {fs ds : List (List Int)} {t : List Int} {p : Nat × Nat} (h : p ∈ prsF fs ds t) : p.1 < fs.length ∧ p.2 < fs.length ∧ condF fs ds t p.1 p.2 = true := by
  obtain ⟨i, hi, h2⟩ := List.mem_flatMap.mp h
  obtain ⟨j, hj, rfl⟩ := List.mem_map.mp h2
  obtain ⟨h3, h4⟩ := List.mem_filter.mp hj
  exact ⟨List.mem_range.mp hi, List.mem_range.mp h3, h4⟩
theorem prs_nodup (fs ds : List (List Int)) (t : List Int) : (prsF fs ds t).Nodup := by
  unfold prsF
  refine List.pairwise_flatMap.mpr ⟨fun i _ => ?_, ?_⟩
  · refine List.pairwise_map.mpr (List.Pairwise.imp ?_ (kept_nodup _ _))
    intro a b hne e
    exact hne (Prod.mk.inj e).2
  · refine List.Pairwise.imp ?_ (List.nodup_range (n := fs.length))
    intro a b hne x hx y hy e
    obtain ⟨j, _, rfl⟩ := List.mem_map.mp hx
    obtain ⟨k, _, rfl⟩ := List.mem_map.mp hy
    exact hne (Prod.mk.inj e).1
theorem two_mem {K : List Nat} (hn : K.Nodup) (hl : K.length = 2) {i j k : Nat} (hi : i ∈ K) (hj : j ∈ K) (hne : i ≠ j) (hk : k ∈ K) : k = i ∨ k = j := by
  match K, hl, hn, hi, hj, hk with
  | [x, y], _, _, hi, hj, hk =>
    simp only [List.mem_cons, List.not_mem_nil, or_false] at hi hj hk
    omega
theorem cond_nb {fs ds : List (List Int)} {t : List Int} {i j : Nat} (h : condF fs ds t i j = true) : 0 < dot t (fs.getD i []) ∧ dot t (fs.getD j []) < 0 ∧ (betwF (commF (fs.getD i []) (fs.getD j []) ds) fs).length = 2 := by
  unfold condF at h
  obtain ⟨h1, h⟩ := Bool.and_eq_true_iff.mp h
  obtain ⟨h2, h3⟩ := Bool.and_eq_true_iff.mp h
  exact ⟨of_decide_eq_true h1, of_decide_eq_true h2, of_decide_eq_true h3⟩
theorem mask_inj {fs ds : List (List Int)} {t : List Int} {p q : Nat × Nat} (hp : p ∈ prsF fs ds t) (hq : q ∈ prsF fs ds t) (e : maskF fs ds p = maskF fs ds q) : p = q := by
  obtain ⟨p1, p2, pc⟩ := prs_mem hp
  obtain ⟨q1, q2, qc⟩ := prs_mem hq
  obtain ⟨ps, pn, pb⟩ := cond_nb pc
  obtain ⟨qs, qn, qb⟩ := cond_nb qc
  have ec : commF (fs.getD p.1 []) (fs.getD p.2 []) ds = commF (fs.getD q.1 []) (fs.getD q.2 []) ds := List.filter_congr (List.map_inj_left.mp e)
  have lieP : ∀ c ∈ commF (fs.getD p.1 []) (fs.getD p.2 []) ds, dot c (fs.getD p.1 []) = 0 ∧ dot c (fs.getD p.2 []) = 0 := fun c hc => by
    obtain ⟨z1, z2⟩ := Bool.and_eq_true_iff.mp (List.mem_filter.mp hc).2
    exact ⟨of_decide_eq_true z1, of_decide_eq_true z2⟩
  have lieQ : ∀ c ∈ commF (fs.getD p.1 []) (fs.getD p.2 []) ds, dot c (fs.getD q.1 []) = 0 ∧ dot c (fs.getD q.2 []) = 0 := fun c hc => by
    rw [ec] at hc
    obtain ⟨z1, z2⟩ := Bool.and_eq_true_iff.mp (List.mem_filter.mp hc).2
    exact ⟨of_decide_eq_true z1, of_decide_eq_true z2⟩
  have hK : (kept (fun k => (commF (fs.getD p.1 []) (fs.getD p.2 []) ds).all fun c => decide (dot c (fs.getD k []) = 0)) fs.length).length = 2 := by
    have := filter_kept [] (fun a => (commF (fs.getD p.1 []) (fs.getD p.2 []) ds).all fun c => decide (dot c a = 0)) fs
    have l2 := congrArg List.length this
    rw [List.length_map] at l2
    rw [l2]
    exact pb
  have inK : ∀ k, k < fs.length → (∀ c ∈ commF (fs.getD p.1 []) (fs.getD p.2 []) ds, dot c (fs.getD k []) = 0) → k ∈ kept (fun k => (commF (fs.getD p.1 []) (fs.getD p.2 []) ds).all fun c => decide (dot c (fs.getD k []) = 0)) fs.length := fun k hk hz => List.mem_filter.mpr ⟨List.mem_range.mpr hk, List.all_eq_true.mpr fun c hc => decide_eq_true (hz c hc)⟩
  have m1 := inK p.1 p1 fun c hc => (lieP c hc).1
  have m2 := inK p.2 p2 fun c hc => (lieP c hc).2
  have m3 := inK q.1 q1 fun c hc => (lieQ c hc).1
  have m4 := inK q.2 q2 fun c hc => (lieQ c hc).2
  have hne : p.1 ≠ p.2 := fun z => by
    rw [z] at ps
    omega
  have nd := kept_nodup (fun k => (commF (fs.getD p.1 []) (fs.getD p.2 []) ds).all fun c => decide (dot c (fs.getD k []) = 0)) fs.length
  have r1 : q.1 = p.1 := by
    rcases two_mem nd hK m1 m2 hne m3 with z | z
    · exact z
    · rw [z] at qs
      omega
  have r2 : q.2 = p.2 := by
    rcases two_mem nd hK m1 m2 hne m4 with z | z
    · rw [z] at qn
      omega
    · exact z
  exact Prod.ext r1.symm r2.symm
theorem new_few (fs ds : List (List Int)) (t : List Int) : (newF fs ds t fs.length).length ≤ 2 ^ ds.length := by
  rw [new_prs, ← List.length_map (as := prsF fs ds t) (f := maskF fs ds)]
  refine nodup_bits ds.length _ (List.pairwise_map.mpr ?_) fun x hx => ?_
  · refine List.Pairwise.imp_of_mem (R := (· ≠ ·)) ?_ (prs_nodup fs ds t)
    intro p q hp hq hne e
    exact hne (mask_inj hp hq e)
  · obtain ⟨p, _, rfl⟩ := List.mem_map.mp hx
    simp [maskF]
end Dd
set_option Elab.async false
set_option linter.all false
set_option maxRecDepth 100000
set_option maxHeartbeats 8000000
set_option exponentiation.threshold 10000
namespace Dd
open Rl Pg
theorem Bd.mono {a b : Nat} (h : a ≤ b) {g : List Int} (hg : Bd a g) : Bd b g := fun z hz => Nat.lt_of_lt_of_le (hg z hz) (Nat.pow_le_pow_right (by decide) h)
theorem lev_bd {a u t : List Int} {b m : Nat} (ha : Bd b a) (hu : Bd b u) (ht : Bd m t) (l1 : a.length = u.length) (l2 : t.length = u.length) (l4 : u.length ≤ 4) : Bd (2 * b + m + 4) (levF a u t) := by
  unfold levF
  refine low_bd ?_
  have c1 := dot_bd ht hu l2 l4
  have c2 := dot_bd ht ha (by omega) (by omega)
  have := comb_bd (m := m + b + 3) (n := b) c1 c2 ha hu l1
  exact Bd.mono (by omega) this
section
variable {n : Nat} {s : St} {t : List Int}
theorem bd_next (I : Inv n s) (lt : t.length = n) (n4 : n ≤ 4) {b m : Nat} (h1 : Bds b s.ls) (h2 : Bds b s.fs) (ht : Bd m t) : Bds (2 * b + m + 4) (s.next t).ls ∧ Bds (2 * b + m + 4) (s.next t).fs := by
  have up : ∀ g : List Int, Bd b g → Bd (2 * b + m + 4) g := fun g hg => Bd.mono (by omega) hg
  cases h : acrF s.ls t with
  | nil =>
    have e1 : (s.next t).ls = s.ls := by show cutL s.ls t = _; unfold cutL; rw [h]
    have e2 : (s.next t).fs = cutA s.fs s.ds t := by show cutF s.ls s.fs s.ds t = _; unfold cutF; rw [h]
    refine ⟨by rw [e1]; exact fun g hg => up g (h1 g hg), ?_⟩
    rw [e2]
    intro a ha
    rcases List.mem_append.mp ha with ha | ha
    · exact up a (h2 a (List.mem_filter.mp ha).1)
    · obtain ⟨i, hi, hr⟩ := List.mem_flatMap.mp ha
      obtain ⟨j, hj, rfl⟩ := List.mem_map.mp hr
      have i1 := gD_mem (List.mem_range.mp hi)
      have j1 := gD_mem (List.mem_range.mp (List.mem_filter.mp hj).1)
      have li := I.lf _ i1
      have lj := I.lf _ j1
      exact lev_bd (h2 _ j1) (h2 _ i1) ht (by omega) (by omega) (by omega)
  | cons a r =>
    obtain ⟨ha, h0⟩ := acr_mem h
    have la := I.ll a ha
    have e1 : (s.next t).ls = lvlL s.ls a t := by show cutL s.ls t = _; unfold cutL; rw [h]
    have e2 : (s.next t).fs = lvlA s.fs a t := by show cutF s.ls s.fs s.ds t = _; unfold cutF; rw [h]
    have bu : Bd b (upF a t) := up_bd (h1 a ha)
    have lu : (upF a t).length = n := by rw [up_len, la]
    refine ⟨?_, ?_⟩
    · rw [e1]
      intro l hl
      obtain ⟨k, hk, rfl⟩ := List.mem_map.mp hl
      have k1 := (List.mem_filter.mp hk).1
      have := I.ll k k1
      exact lev_bd (h1 k k1) bu ht (by omega) (by omega) (by omega)
    · rw [e2]
      intro f hf
      rcases List.mem_append.mp hf with hf | hf
      · obtain ⟨g, hg, rfl⟩ := List.mem_map.mp hf
        have := I.lf g hg
        exact lev_bd (h2 g hg) bu ht (by omega) (by omega) (by omega)
      · rw [List.mem_singleton.mp hf]
        exact up _ bu
theorem ls_next : (s.next t).ls.length ≤ s.ls.length := by
  show (cutL s.ls t).length ≤ _
  unfold cutL
  split
  · exact Nat.le_refl _
  · unfold lvlL
    rw [List.length_map]
    exact List.length_filter_le _ _
theorem fs_next : (s.next t).fs.length ≤ s.fs.length + 2 ^ s.ds.length := by
  show (cutF s.ls s.fs s.ds t).length ≤ _
  have p : 0 < 2 ^ s.ds.length := Nat.two_pow_pos _
  unfold cutF
  split
  · unfold cutA
    rw [List.length_append]
    have h1 := List.length_filter_le (fun a => decide (0 ≤ dot t a)) s.fs
    have h2 := new_few s.fs s.ds t
    omega
  · unfold lvlA
    rw [List.length_append, List.length_map]
    show s.fs.length + 1 ≤ _
    omega
end
def bdN : Nat → Nat
  | 0 => 1
  | i + 1 => 2 * bdN i + 2 + 4
theorem bdN_mono : ∀ {i j : Nat}, i ≤ j → bdN i ≤ bdN j
  | i, 0, h => by
    have : i = 0 := by omega
    subst this
    exact Nat.le_refl _
  | i, j + 1, h => by
    rcases Nat.lt_or_ge i (j + 1) with q | q
    · have := bdN_mono (show i ≤ j by omega)
      show bdN i ≤ 2 * bdN j + 2 + 4
      omega
    · have : i = j + 1 := by omega
      subst this
      exact Nat.le_refl _
theorem unit_bd (n a : Nat) : Bd 1 (unitF n a) := fun z hz => by
  obtain ⟨o, _, rfl⟩ := List.mem_map.mp hz
  split <;> decide
theorem inv_zero (n : Nat) : Inv n ⟨unitsF n, [], []⟩ := by
  refine ⟨fun l hl => ?_, (fun l hl => nomatch hl), (fun l hl t ht => nomatch ht), (fun l hl => nomatch hl), fun l hl => ?_⟩
  · obtain ⟨a, _, rfl⟩ := List.mem_map.mp hl
    exact unit_len n a
  · obtain ⟨a, ha, rfl⟩ := List.mem_map.mp hl
    have ha2 := List.mem_range.mp ha
    have at_ : ∀ c, (unitF n c).getD a 0 = if a = c then 1 else 0 := fun c => by
      unfold unitF
      rw [List.getD_eq_getElem?_getD, List.getElem?_map, List.getElem?_range ha2]
      rfl
    refine ⟨a, ha2, by rw [at_, if_pos rfl]; decide, fun k hk hne => ?_⟩
    obtain ⟨c, _, rfl⟩ := List.mem_map.mp hk
    rw [at_, if_neg fun e => hne (by rw [e])]
theorem all_run {n : Nat} {ts : List (List Int)} (n4 : n ≤ 4) (lt : Ln n ts) (bt : Bds 2 ts) : ∀ i, i ≤ (allT n ts).length → Inv n (stF n (allT n ts) i) ∧ Bds (bdN i) (stF n (allT n ts) i).ls ∧ Bds (bdN i) (stF n (allT n ts) i).fs ∧ (stF n (allT n ts) i).ls.length ≤ n ∧ (stF n (allT n ts) i).fs.length + 1 ≤ 2 ^ i
  | 0, _ => by
    refine ⟨inv_zero n, fun l hl => ?_, fun l hl => ?_, ?_, ?_⟩
    · obtain ⟨a, _, rfl⟩ := List.mem_map.mp (show l ∈ unitsF n from hl)
      exact unit_bd n a
    · cases (show l ∈ ([] : List (List Int)) from hl)
    · show (unitsF n).length ≤ n
      simp [unitsF]
    · show 0 + 1 ≤ 2 ^ 0
      decide
  | i + 1, h => by
    obtain ⟨I, b1, b2, l1, l2⟩ := all_run n4 lt bt i (by omega)
    have e : (allT n ts)[i]? = some (allT n ts)[i] := List.getElem?_eq_getElem (by omega)
    have hm : (allT n ts)[i] ∈ allT n ts := List.getElem_mem _
    have lt2 : (allT n ts)[i].length = n := by
      rcases List.mem_cons.mp hm with q | q
      · rw [q]
        exact unit_len _ _
      · exact lt _ q
    have bt2 : Bd 2 (allT n ts)[i] := by
      rcases List.mem_cons.mp hm with q | q
      · rw [q]
        exact Bd.mono (by decide) (unit_bd _ _)
      · exact bt _ q
    rw [st_succ e]
    obtain ⟨c1, c2⟩ := bd_next I lt2 n4 b1 b2 bt2
    refine ⟨inv_next I lt2, c1, c2, Nat.le_trans ls_next l1, ?_⟩
    have := fs_next (s := stF n (allT n ts) i) (t := (allT n ts)[i])
    rw [st_ds i (by omega), List.length_take, Nat.min_eq_left (by omega)] at this
    rw [Nat.pow_succ]
    omega
theorem lst_ok {n : Nat} {ts : List (List Int)} {g : List Int} (n2 : 2 ≤ n) (n4 : n ≤ 4) (lt : Ln n ts) (lg : g.length = n) (bt : Bds 2 ts) (bg : Bd 400 g) (tl : ts.length ≤ 9) : LstOk n ts g := by
  have run := all_run n4 lt bt
  have al : (allT n ts).length = ts.length + 1 := rfl
  obtain ⟨I, b1, b2, l1, l2⟩ := run (ts.length + 1) (by omega)
  have p10 : 2 ^ (ts.length + 1) ≤ 1024 := Nat.pow_le_pow_right (by decide) (by omega : ts.length + 1 ≤ 10)
  have bb : bdN (ts.length + 1) ≤ 8600 := Nat.le_trans (bdN_mono (show ts.length + 1 ≤ 10 by omega)) (by decide)
  refine ⟨n2, n4, lt, lg, fun t ht => Bd.mono (by decide) (bt t ht), bg, by omega, ⟨I.ll, fun i hi => ?_, fun i t e => ?_, by omega, by omega⟩, fun a ha => ?_, fun a ha => ?_, ?_⟩
  · obtain ⟨J, c1, c2, k1, k2⟩ := run i (by omega)
    have p9 : 2 ^ i ≤ 512 := Nat.pow_le_pow_right (by decide) (by omega : i ≤ 9)
    have b9 : bdN i ≤ 4000 := Nat.le_trans (bdN_mono (show i ≤ 9 by omega)) (by decide)
    exact ⟨by omega, by omega, J.ll, J.lf, fun l hl => Bd.mono b9 (c1 l hl), fun l hl => Bd.mono b9 (c2 l hl)⟩
  · have hi : i < (allT n ts).length := (List.getElem?_eq_some_iff.mp e).1
    exact inv_ok (run i (by omega)).1
  · rcases List.mem_append.mp ha with ha | ha
    · rcases List.mem_append.mp ha with ha | ha
      · exact I.lf a ha
      · exact I.ll a ha
    · obtain ⟨l, hl, rfl⟩ := List.mem_map.mp ha
      rw [neg_len]
      exact I.ll l hl
  · rcases List.mem_append.mp ha with ha | ha
    · rcases List.mem_append.mp ha with ha | ha
      · exact Bd.mono bb (b2 a ha)
      · exact Bd.mono bb (b1 a ha)
    · obtain ⟨l, hl, rfl⟩ := List.mem_map.mp ha
      exact neg_bd (Bd.mono bb (b1 l hl))
  · unfold arrF
    rw [List.length_append, List.length_append, List.length_map]
    omega
end Dd
set_option Elab.async false
set_option linter.all false
set_option maxRecDepth 100000
set_option maxHeartbeats 8000000
namespace K5
open PySem PySem.Spec PyProof.Rows L2 L2H Gd Rl Hy Fx Vd
open Pg (fD Wd2 Wd3 badT fmB lenD getP_at fm_is spLst OutV LstAns LstOk)
open Dd (Bd Bds Ln lst_ok)
/-- the forms among the tests are small -/
def TwoT (d : PyData) : Prop := ∀ ds, d = .tuple ds → ∀ x ∈ ds, Two x
theorem good_tests {ds : List PyData} (hall : ∀ i, i < ds.length → badT ds i = false) : ds.length ≤ 9 ∧ ∃ ts : List (List Int), ds = ts.map fD ∧ ∀ t ∈ ts, 2 ≤ t.length ∧ t.length ≤ 4 ∧ t.length = lenD (ds.getD 0 .none) := by
  refine ⟨?_, ?_⟩
  · rcases Nat.lt_or_ge 9 ds.length with h | h
    · have := hall 9 h
      unfold badT at this
      simp at this
    · exact h
  · have one : ∀ i, i < ds.length → ∃ g : List Int, ds.getD i .none = fD g ∧ 2 ≤ g.length ∧ g.length ≤ 4 ∧ g.length = lenD (ds.getD 0 .none) := fun i hi => by
      have h := hall i hi
      unfold badT at h
      have h1 := Bool.or_eq_false_iff.mp h
      have h2 := Bool.or_eq_false_iff.mp h1.2
      have hf : fmB (ds.getD i .none) = true := by
        cases q : fmB (ds.getD i .none) with
        | true => rfl
        | false =>
          have := h2.1
          rw [q] at this
          cases this
      obtain ⟨g, eg, g2, g4⟩ := fm_is hf
      have hl : lenD (ds.getD i .none) = lenD (ds.getD 0 .none) := by
        have := h2.2
        by_cases q : lenD (ds.getD i .none) = lenD (ds.getD 0 .none)
        · exact q
        · rw [decide_eq_false q] at this
          cases this
      refine ⟨g, eg, g2, g4, ?_⟩
      rw [← hl, eg]
      show _ = (g.map PyData.int).length
      rw [List.length_map]
    have all : ∀ x ∈ ds, ∃ g : List Int, x = fD g ∧ 2 ≤ g.length ∧ g.length ≤ 4 ∧ g.length = lenD (ds.getD 0 .none) := fun x hx => by
      obtain ⟨i, hi, rfl⟩ := List.mem_iff_getElem.mp hx
      obtain ⟨g, eg, r⟩ := one i hi
      refine ⟨g, ?_, r⟩
      rw [← eg, List.getD_eq_getElem?_getD, List.getElem?_eq_getElem hi]
      rfl
    generalize lenD (ds.getD 0 .none) = c at all
    clear one hall
    induction ds with
    | nil => exact ⟨[], rfl, fun t ht => by cases ht⟩
    | cons x r ih =>
      obtain ⟨g, rfl, hg⟩ := all x (List.mem_cons_self ..)
      obtain ⟨ts, rfl, ht⟩ := ih fun y hy => all y (List.mem_cons_of_mem _ hy)
      exact ⟨g :: ts, rfl, fun t h => by
        rcases List.mem_cons.mp h with rfl | h
        · exact hg
        · exact ht t h⟩
theorem tt_lst {K : PySem.W.Frag} {H : Hp} {v u : V} {d e : PyData} {zs : List Str} {CN CF : Addr} {Q : VK} {tl : XK → Hp → VK → Prop} (hv : Vp K H v d) (hu : Rp K H u e) (oe : OkE e) (two : Two e) (wd : Wd3 d) (tt : TwoT d) (due : DueT d e zs)
    (k : ∀ l H', Same H H' → H l = none → H' l = some (.lst (zs.map V.str)) → Q (.ref l) H') (htl : ∀ E Q', spLst K CN CF [v, u] H Q' E → tl E H Q') : TTc K CN CF tl H Q := by
  refine htl _ _ ⟨v, u, d, noD e, rfl, hv, vp_rp hu, wd, oe.wd, ?_⟩
  rcases due with ⟨hn, rfl⟩ | ⟨ds, i, rfl, hi, hj, hb, rfl⟩ | ⟨ds, rfl, hall, hbad, rfl⟩ | ⟨ds, rfl, hall, hf, hl, rfl⟩
  · refine .inl ⟨hn, fun H1 dd s1 nd => .inl ⟨dd, .non, .none, rfl, rfl, upd_same, ⟨.inl .non, by decide +kernel, by decide +kernel, by decide +kernel⟩, fun l H' n => ?_⟩⟩
    exact k l H' ((s1.trans (same_new nd)).trans n.2.2) ((s1.trans (same_new nd)).free n.1) n.2.1
  · refine .inr (.inl ⟨ds, i, rfl, hi, hj, hb, fun H1 dd s1 nd => .inl ⟨dd, .int (i : Nat), .int (i : Nat), rfl, rfl, upd_same, ?_, fun l H' n => ?_⟩⟩)
    · have i9 : i ≤ 9 := by
        rcases Nat.lt_or_ge 9 i with q | q
        · have := hj 9 q
          unfold badT at this
          simp at this
        · exact q
      have z : ∀ j : Nat, j ≤ 9 → PyData.showable (.int (j : Nat)) = true ∧ (PyData.int (j : Nat)).depth ≤ 20 ∧ (PyData.int (j : Nat)).shown.length ≤ sizeLine := fun j hj => by
        match j, hj with
        | 0, _ => decide +kernel
        | 1, _ => decide +kernel
        | 2, _ => decide +kernel
        | 3, _ => decide +kernel
        | 4, _ => decide +kernel
        | 5, _ => decide +kernel
        | 6, _ => decide +kernel
        | 7, _ => decide +kernel
        | 8, _ => decide +kernel
        | 9, _ => decide +kernel
      exact ⟨.inl (.int _), z i i9⟩
    · exact k l H' ((s1.trans (same_new nd)).trans n.2.2) ((s1.trans (same_new nd)).free n.1) n.2.1
  · refine .inr (.inr (.inl ⟨ds, rfl, hall, by rw [fm_noD, lenD_noD]; exact hbad, fun H1 dd s1 nd => .inr ⟨dd, u, e, rfl, rfl, upd_same, ⟨rp_same (s1.trans (same_new nd)) hu, oe.sh, oe.dp, sz1000 oe.len⟩, fun l H' n => ?_⟩⟩))
    exact k l H' ((s1.trans (same_new nd)).trans n.2.2) ((s1.trans (same_new nd)).free n.1) n.2.1
  · obtain ⟨l9, ts, rfl, hts⟩ := good_tests hall
    have hfe : fmB (noD e) = true := by rw [fm_noD]; exact hf
    obtain ⟨g, eg, g2, g4⟩ := fm_is hfe
    have ee : e = fD g := by
      cases e with
      | dict es => cases eg
      | tuple es => exact eg
      | int i => cases eg
      | bool i => cases eg
      | none => cases eg
      | str i => cases eg
      | list i => cases eg
    have le : lenD e = g.length := by
      rw [ee]
      show (g.map PyData.int).length = _
      rw [List.length_map]
    rw [List.length_map] at l9
    have lt : Ln g.length ts := fun t ht => by
      obtain ⟨_, _, h3⟩ := hts t ht
      rcases hl with h0 | h0
      · rw [List.map_eq_nil_iff.mp h0] at ht
        cases ht
      · rw [h3, ← h0, le]
    have bt : Bds 2 ts := fun t ht => tt _ rfl (fD t) (List.mem_map_of_mem ht) t rfl (hts t ht).2.1
    have ok : LstOk g.length ts g := lst_ok g2 g4 lt rfl bt (Dd.Bd.mono (by decide) (two g ee g4)) l9
    have told : ∀ (H' : Hp), Same H H' → ([V.str "told"] : List V).length ≤ 1000 ∧ ∀ l H2, New H' l (.lst [.str "told"]) H2 → Q (.ref l) H2 := fun H' s => ⟨by show 1 ≤ 1000; decide, fun l H2 n => k l H2 (s.trans n.2.2) (s.free n.1) n.2.1⟩
    refine .inr (.inr (.inr ⟨g.length, ts, g, rfl, eg, fun i hi => hall i (by rw [List.length_map]; exact hi), ok, fun _ H' s => told H' s, fun _ _ H' s => told H' s, fun _ _ b H' s _ => told H' s⟩))
end K5
set_option Elab.async false
set_option linter.all false
set_option maxRecDepth 100000
set_option maxHeartbeats 8000000
namespace K5
open PySem PySem.Spec PyProof.Rows L2 Gd Rl LamX
open Pg (Nl nl_same nl_upd nl_del seqT_nl)
theorem But.nl {p : Addr} {H H' : Hp} (b : But p H H') (hp : Well H p) : Nl H H' := fun c o e n => b c o e fun q => by
  obtain ⟨st, k, o1, h, _⟩ := hp
  rw [q, h] at e
  cases e
  exact n _ rfl
/-! what stays while tables of code objects grow; a def that knows where its code is -/
theorem codeO_lst {c : Addr} {q : Str} (xs : List V) : CodeO c q ≠ .lst xs := fun z => by
  unfold CodeO at z
  cases z
/-- all stands but perhaps what is at p, and tables -/
def ButT (p : Addr) (H H' : Hp) : Prop := ∀ b o, H b = some o → b ≠ p → (∀ ps, o ≠ .tbl ps) → H' b = some o
theorem ButT.refl {p : Addr} {H : Hp} : ButT p H H := fun _ _ e _ _ => e
theorem ButT.trans {p : Addr} {H H1 H2 : Hp} (a : ButT p H H1) (b : ButT p H1 H2) : ButT p H H2 := fun c o e n t => b c o (a c o e n t) n t
theorem But.t {p : Addr} {H H' : Hp} (b : But p H H') : ButT p H H' := fun c o e n _ => b c o e n
theorem ext_t {p : Addr} {H H' : Hp} (b : ExtN H H') : ButT p H H' := fun c o e _ t => b c o e t
theorem same_ext {H H' : Hp} (s : Same H H') : ExtN H H' := fun b o e _ => s b o e
theorem Well.ext {H H' : Hp} {p : Addr} (h : Well H p) (e : ExtN H H') : Well H' p := by
  obtain ⟨o, st, c, h1, h2⟩ := h
  exact ⟨o, st, c, e _ _ h1 (fun _ q => nomatch q), h2⟩
theorem tabs_but {T : List (Addr × Str)} {p : Addr} {H H' : Hp} (t : Tabs T H) (hp : Well H p) (b : But p H H') : Tabs T H' := fun q hq => by
  have nl := b.nl hp
  obtain ⟨ps, h1, h2, h3⟩ := t q hq
  refine ⟨ps, nl _ _ h1 (fun _ z => nomatch z), h2, fun pos cv hc => ?_⟩
  obtain ⟨c, e1, e2⟩ := h3 pos cv hc
  exact ⟨c, e1, nl _ _ e2 codeO_lst⟩
theorem tabs_same {T : List (Addr × Str)} {H H' : Hp} (t : Tabs T H) (s : Same H H') : Tabs T H' := t.ext s
/-- a list is put otherwise: the tables stay -/
theorem tabs_upd {T : List (Addr × Str)} {H : Hp} {l : Addr} {X Y : List V} (t : Tabs T H) (h : H l = some (.lst X)) : Tabs T (upd H l (.lst Y)) := fun q hq => by
  have nl := nl_upd (Y := Y) h
  obtain ⟨ps, h1, h2, h3⟩ := t q hq
  refine ⟨ps, nl _ _ h1 (fun _ z => nomatch z), h2, fun pos cv hc => ?_⟩
  obtain ⟨c, e1, e2⟩ := h3 pos cv hc
  exact ⟨c, e1, nl _ _ e2 codeO_lst⟩
theorem seqL_ext {K : PySem.W.Frag} {H H' : Hp} {a : Addr} {xs : List V} (e : ExtN H H') (h : SqL K H a xs) : SqL K H' a xs := by
  rcases h with (h | ⟨o, h⟩) | h
  · exact .inl (.inl (e _ _ h fun _ z => nomatch z))
  · exact .inl (.inr ⟨o, e _ _ h fun _ z => nomatch z⟩)
  · exact .inr h
theorem seqT_ext {K : PySem.W.Frag} {H H' : Hp} {a : Addr} {xs : List V} (e : ExtN H H') (h : SqT K H a xs) : SqT K H' a xs := by
  rcases h with (h | ⟨o, h⟩) | h
  · exact .inl (.inl (e _ _ h fun _ z => nomatch z))
  · exact .inl (.inr ⟨o, e _ _ h fun _ z => nomatch z⟩)
  · exact .inr h
mutual
theorem dp_ext {K : PySem.W.Frag} {H H' : Hp} (e : ExtN H H') : ∀ (d : PyData) {v : V}, Dp K H v d → Dp K H' v d
  | .none, _, h => by cases h; exact .non
  | .bool b, _, h => by cases h; exact .bl b
  | .int i, _, h => by cases h; exact .int i
  | .str z, _, h => by cases h; exact .str z
  | .list ds, _, h => by
    cases h with
    | lst hs ha => exact .lst (seqL_ext e hs) (dp_extAll e ds ha)
  | .tuple ds, _, h => by
    cases h with
    | tup hs ha => exact .tup (seqT_ext e hs) (dp_extAll e ds ha)
  | .dict _, _, h => by cases h
theorem dp_extAll {K : PySem.W.Frag} {H H' : Hp} (e : ExtN H H') : ∀ (ds : List PyData) {vs : List V}, DpAll K H vs ds → DpAll K H' vs ds
  | [], _, h => by cases h; exact .nil
  | d :: ds, _, h => by
    cases h with
    | cons h1 h2 => exact .cons (dp_ext e d h1) (dp_extAll e ds h2)
end
theorem rp_ext {K : PySem.W.Frag} {H H' : Hp} (e : ExtN H H') {d : PyData} {v : V} (h : Rp K H v d) : Rp K H' v d := by
  rcases h with h | ⟨a, kvs, ds, rfl, ha, hp, rfl⟩
  · exact .inl (dp_ext e d h)
  · exact .inr ⟨a, kvs, ds, rfl, e _ _ ha (fun _ z => nomatch z), hp, rfl⟩
/-- the def's code object is at c -/
def CodeAt (K : PySem.W.Frag) (f c : Addr) : Prop := ∃ (oc : Value) (od : Option Addr) (osl : Array (Option Value)) (fd : FuncData), K.lookup f = some ⟨oc, od, .func fd, osl⟩ ∧ fd.code = .ref c
theorem CodeAt.of {K : PySem.W.Frag} {p : Str × Option Str} {c : Addr} (h : CodeAt K (He.fAd K p) c) : (He.cT K p).1 = c := by
  obtain ⟨oc, od, osl, fd, lk, e⟩ := h
  exact He.codeOf_eq lk e
section
variable {P : Program} {w : World} {K : PySem.W.Frag} {mg : Str → Option Value} {base : Heap} {x qual : Str} {params : Arguments} {body : List Stmt} {scope : Scope} {dvs : List V} {kws : List (Str × V)} {f : Addr} {fd : FuncData}
/-- as okG, the code's place told -/
theorem okGc {N ps : List Str} {k : Nat} {sp : Sp} (F : FunD K x qual params body scope dvs kws f fd) (S : FnScope N ps scope) (len : ∀ vs H Q E, sp vs H Q E → vs.length = ps.length)
    (hbody : ∀ (c : Addr) (A : Around) (outer : List Env) (s : Shared) (H : Hp) (vs : List V) (Q : VK) (E : XK), CodeAt K f c → (A.deeper (envOfC qual scope s.heap.objs.size f (.ref c))).guards = some [] → Room k (A.deeper (envOfC qual scope s.heap.objs.size f (.ref c))) → sp vs H Q E →
      ∃ t, PSs (cxOf CX0 P w K mg base N qual scope f (.ref c) A outer s H E) body t ∧ t { nx := fun _ H' => Q .non H', rt := Q } (L2.start N vs) H) : FnG P w K mg base (k + 1) f fd ps sp := by
  have F2 := F
  obtain ⟨oc, od, dV, kV, doc, pm, an, cdv, ct, osl, rfl, lk, hcd, _, _⟩ := F.ex
  obtain ⟨c, rfl⟩ := He.codeIn_ref hcd
  have hc : CodeAt K f c := ⟨_, _, _, _, lk, rfl⟩
  refine ⟨len, fun A outer s H args us vs Q E hgd hr e0 hb r hsp => ?_⟩
  have hlv := len _ _ _ _ hsp
  have KX : K.In s.heap := e0.mod.kin.keeps fun b o e => (e0.bs b o e).1
  have lim : s.heap.NoLimit := e0.mod.nolimit.keeps fun b o e => (e0.bs b o e).1
  have hkd : ∀ y ∈ ps.zip us, scope.names.lookup y.1 = some .local ∨ (scope.names.lookup y.1 = some .cell ∧ ((cellsFrom (s.heap.objs.size + 1) scope.names []).lookup y.1).isSome = true) := fun ⟨n, v⟩ hy => by
    rcases S.par n (List.of_mem_zip hy).1 with q | q
    · exact .inl q
    · exact .inr ⟨q, PySem.W.cellsFrom_some _ _ _ (.inl q)⟩
  refine codeAny_call_function hr.depth (KX _ _ lk) rfl S.co S.gen rfl (PySem.W.codeRec_of KX hcd) (hb _ _ _ _ ?_)
  refine wpAny_newFunctionEnv_cells S.kind hkd fun env he s1 z => ?_
  subst he
  refine ⟨lim.keeps z.toInCall.keep, codeAny_func ?_⟩
  obtain ⟨t, ht, hq⟩ := hbody c A outer s H vs Q E hc (deeper_guards hgd) (hr.deeper _) hsp
  have I : Inv (cxOf CX0 P w K mg base N qual scope f (.ref c) A outer s H E) [] (L2.start N vs) H s1 := inv_start S hr.hd e0 hlv r z
  refine wpAny_mono (ht.run [] s1 (L2.start N vs) H _ I hq) (fun fl s' hs => ?_) fun e s' hs => hs
  cases fl with
  | ret u =>
    obtain ⟨v, σ', H', J, rv, q⟩ := hs
    exact ⟨v, H', J.os, J.bare, J.base, J.hok, rv, q⟩
  | next =>
    obtain ⟨σ', H', J, q⟩ := hs
    exact ⟨V.non, H', J.os, J.bare, J.base, J.hok, rfl, q⟩
  | brk =>
    obtain ⟨_, _, _, q⟩ := hs
    exact q.elim
  | cont =>
    obtain ⟨_, _, _, q⟩ := hs
    exact q.elim
end
end K5
set_option Elab.async false
set_option linter.all false
set_option maxRecDepth 100000
set_option maxHeartbeats 8000000
namespace Ow
open PySem PySem.Spec PyProof.Rows L2
section
variable {X : Cx} {CX : CXT} {k : Nat} {f : Addr} {sp : Sp} {E : XK} {x : Str} {p pos : Pos} {tk : TA} {fd : FuncData} {ps ks : List Str} {kws : List Keyword} {gg : List Value → List Value → List Value} {gV : List V → List V → List V}
/-- x(k = v, ..), x a def of the module, no argument by position -/
def tFnK (n : Nat) (sp : Sp) (gV : List V → List V → List V) (E : XK) (tk : TA) : TE := fun σ H Q => tk σ H fun zs H2 => zs.length = n ∧ sp (gV [] zs) H2 Q E
theorem pe_callK0 (F : FnOk X.prog X.w X.K X.mg X.base CX k f fd ps sp) (hr : Room k X.A) (hg : Gl X x) (hm : X.mg x = some (.ref f)) (hk : PySem.W.keepIn X.K (.ref f) = true) (hb : KBn X.K fd ps 0 ks gg gV) (hx : Passes CX X E) (hkw : PK X kws tk)
    (hall : (backToKw pos (keywordEach kws X.env)).all (·.1.isSome) = true := by rfl) (hks : (backToKw pos (keywordEach kws X.env)).filterMap (·.1) = ks := by rfl) (hdb : (x == ("__debug__" : Str)) = false := by decide)
    (hpl : ((backTo pos (starEach [] X.env)).any (·.1) || (backToKw pos (keywordEach kws X.env)).any (·.1.isNone)) = false := by rfl) :
    PE X (.Call (.Name x p) [] kws pos) (tFnK ks.length sp gV E tk) := by
  refine ⟨fun pins s σ H Q I h => ?_⟩
  refine wpAny_Call_Name_kw (ld_glob I hg hm ?_ hdb)
  refine PySem.W.callWith_KW0 (h₀ := X.base) I.ok.mod.kin hk hall ?_ hpl
  refine thn (hkw.run pos pins s σ H _ I h) fun ws s2 ⟨zs, H2, I2, rz, l2, q2⟩ => ⟨I2.kIn, ?_⟩
  rw [hks]
  refine wpAny_call (codeAny_mono (F.run X.A X.stack s2 H2 ⟨[], ks.zip ws⟩ (gg [] ws) (gV [] zs) Q E hr I2.env0 (hb.to s2 [] ws I2.kIn rfl (rz.length.symm.trans l2)) (hb.rel .nil rz) q2) fun r s' hq => ?_)
  cases r with
  | error e => exact hx pins σ H2 s2 e s' I2 hq
  | ok fl =>
    cases fl with
    | ret u => exact I2.after hq
    | next => exact False.elim hq
    | brk => exact False.elim hq
    | cont => exact False.elim hq
end
end Ow
set_option Elab.async false
set_option linter.all false
set_option maxRecDepth 100000
set_option maxHeartbeats 8000000
namespace Nu
open PySem PySem.Spec PyProof.Rows L2 TL
/-! whole numbers as texts -/
def numS (i : Int) : Str := Str.ofString (toString i)
theorem tl_neg (n : Nat) : tl (numS (Int.negSucc n)) = 45 :: numL (n + 1) := by
  unfold numS
  rw [tl_ofString]
  show ("-" ++ Nat.repr (n + 1)).toList.map Char.toNat = _
  rw [String.toList_append, List.map_append, Nat.toList_repr]
  rfl
theorem tl_pos (n : Nat) : tl (numS (Int.ofNat n)) = numL n := tl_num n
theorem num_signs (i : Int) : ∀ c ∈ tl (numS i), c = 45 ∨ (48 ≤ c ∧ c ≤ 57) := by
  intro c hc
  cases i with
  | ofNat n =>
    rw [tl_pos] at hc
    exact .inr (numL_digits n c hc)
  | negSucc n =>
    rw [tl_neg] at hc
    rcases List.mem_cons.mp hc with h | h
    · exact .inl h
    · exact .inr (numL_digits _ c h)
theorem num_free {s : Nat} (i : Int) (h : s < 45 ∨ 57 < s) : s ∉ tl (numS i) := fun hm => by
  have := num_signs i s hm
  omega
theorem num_ne (i : Int) : tl (numS i) ≠ [] := by
  cases i with
  | ofNat n =>
    rw [tl_pos]
    exact numL_ne n
  | negSucc n =>
    rw [tl_neg]
    exact fun h => by cases h
theorem num_len {i : Int} (h : -1000000 ≤ i ∧ i ≤ 1000000) : (numS i).length ≤ 8 := by
  rw [len_tl]
  cases i with
  | ofNat n =>
    rw [tl_pos]
    have h2 : Int.ofNat n = (n : Int) := rfl
    exact Nat.le_trans (numL_len (n := n) (k := 7) (by decide) (by omega)) (by decide)
  | negSucc n =>
    rw [tl_neg, List.length_cons]
    have h2 : n + 1 < 10 ^ 7 := by
      have := h.1
      omega
    have := numL_len (n := n + 1) (k := 7) (by decide) h2
    omega
theorem num_read {i : Int} (h : -1000000 ≤ i ∧ i ≤ 1000000) : intText? (numS i) = some i := by
  have hl := num_len h
  cases i with
  | ofNat n =>
    have e := PySem.intText_digits (x := numS (Int.ofNat n)) (by
      have := tl_pos n
      unfold TL.tl at this
      rw [this]
      exact numL_digits n) (num_ne _) (by omega)
    rw [e]
    have := tl_pos n
    unfold TL.tl at this
    rw [this, numL_val]
    rfl
  | negSucc n =>
    have e := PySem.intText_neg (x := numS (Int.negSucc n)) (tl_neg n) (numL_digits _) (numL_ne _) (by omega)
    rw [e, numL_val]
    rfl
theorem num_log {i : Int} (h : -1000000 ≤ i ∧ i ≤ 1000000) : i.natAbs.log2 < 1920 := by
  have h1 : i.natAbs < 2 ^ 20 := by
    have : (2 : Nat) ^ 20 = 1048576 := by decide
    omega
  by_cases h0 : i.natAbs = 0
  · rw [h0]
    decide
  · have := (Nat.log2_lt h0).mpr h1
    omega
end Nu
set_option Elab.async false
set_option linter.all false
set_option maxRecDepth 100000
set_option maxHeartbeats 8000000
namespace Sz
open PySem PySem.Spec PyProof.Rows L2 TL Nu
/-! how long shown data is at most -/
theorem len_ap (x y : Str) : (x ++ y).length = x.length + y.length := by
  rw [len_tl, tl_append, List.length_append, ← len_tl, ← len_tl]
theorem sums_le {l : List Nat} {b : Nat} (h : ∀ x ∈ l, x ≤ b) : l.sum ≤ l.length * b := by
  induction l with
  | nil => simp
  | cons a l ih =>
    rw [List.sum_cons, List.length_cons, Nat.succ_mul]
    have h1 := h a (List.mem_cons_self ..)
    have h2 := ih fun x hx => h x (List.mem_cons_of_mem _ hx)
    omega
theorem sep_le (k : Nat) : ((if k > 0 then ", " else "" : String) : Str).length ≤ 2 := by
  split <;> decide +kernel
theorem from_le : ∀ (ts : List Str) (k : Nat) (acc : Str), (textFrom k acc ts).length ≤ acc.length + (ts.map (·.length)).sum + 2 * ts.length
  | [], k, acc => by
    show acc.length ≤ _
    omega
  | t :: r, k, acc => by
    have ih := from_le r (k + 1) (acc ++ (if k > 0 then ", " else "" : String) ++ t)
    have e : textFrom k acc (t :: r) = textFrom (k + 1) (acc ++ (if k > 0 then ", " else "" : String) ++ t) r := rfl
    rw [e]
    rw [len_ap, len_ap] at ih
    have := sep_le k
    rw [List.map_cons, List.sum_cons, List.length_cons]
    omega
theorem list_le (ts : List Str) : (listText ts).length ≤ (ts.map (·.length)).sum + 2 * ts.length + 2 := by
  unfold listText
  rw [len_ap]
  have := from_le ts 0 "["
  have e1 : ("[" : Str).length = 1 := by decide +kernel
  have e2 : ("]" : Str).length = 1 := by decide +kernel
  rw [e1] at this
  rw [e2]
  omega
theorem join_le (y : Str) : ∀ ps : List Str, (Str.join y ps).length ≤ (ps.map (·.length)).sum + ps.length * y.length
  | [] => Nat.zero_le _
  | [p] => by
    show p.length ≤ _
    simp
  | p :: q :: r => by
    have ih := join_le y (q :: r)
    have e : Str.join y (p :: q :: r) = p ++ y ++ Str.join y (q :: r) := rfl
    rw [e, len_ap, len_ap, List.map_cons, List.sum_cons, List.length_cons, Nat.succ_mul]
    omega
theorem tup_le (ts : List Str) : (tupleText ts).length ≤ (ts.map (·.length)).sum + 2 * ts.length + 3 := by
  unfold tupleText
  rw [len_ap, len_ap]
  have := join_le ", " ts
  have e1 : ("(" : Str).length = 1 := by decide +kernel
  have e2 : (", " : Str).length = 2 := by decide +kernel
  have e3 : ((if ts.length == 1 then ",)" else ")" : String) : Str).length ≤ 2 := by
    split <;> decide +kernel
  rw [e2] at this
  rw [e1]
  omega
/-- shown in at most n signs, at most k deep -/
structure Sh (d : PyData) (n k : Nat) : Prop where
  len : d.shown.length ≤ n
  sh : d.showable = true
  dp : d.depth ≤ k
theorem Sh.mono {d : PyData} {n k n2 k2 : Nat} (h : Sh d n k) (a : n ≤ n2) (b : k ≤ k2) : Sh d n2 k2 := ⟨Nat.le_trans h.len a, h.sh, Nat.le_trans h.dp b⟩
theorem all_len : ∀ ds : List PyData, (PyData.shownAll ds).length = ds.length
  | [] => by simp only [PyData.shownAll]; rfl
  | d :: ds => by
    simp only [PyData.shownAll, List.length_cons, all_len ds]
theorem all_mem : ∀ {ds : List PyData} {t : Str}, t ∈ PyData.shownAll ds → ∃ d ∈ ds, t = d.shown
  | [], t, h => by
    simp only [PyData.shownAll] at h
    cases h
  | d :: ds, t, h => by
    simp only [PyData.shownAll] at h
    rcases List.mem_cons.mp h with rfl | h
    · exact ⟨d, List.mem_cons_self .., rfl⟩
    · obtain ⟨e, he, q⟩ := all_mem h
      exact ⟨e, List.mem_cons_of_mem _ he, q⟩
theorem all_sum {ds : List PyData} {n : Nat} (h : ∀ d ∈ ds, d.shown.length ≤ n) : ((PyData.shownAll ds).map (·.length)).sum ≤ ds.length * n := by
  have q := sums_le (l := (PyData.shownAll ds).map (·.length)) (b := n) fun x hx => by
    obtain ⟨t, ht, rfl⟩ := List.mem_map.mp hx
    obtain ⟨d, hd, rfl⟩ := all_mem ht
    exact h d hd
  rw [List.length_map, all_len] at q
  exact q
theorem all_show : ∀ {ds : List PyData}, (∀ d ∈ ds, d.showable = true) → PyData.showableAll ds = true
  | [], _ => rfl
  | d :: ds, h => by
    simp only [PyData.showableAll, h d (List.mem_cons_self ..), all_show fun e he => h e (List.mem_cons_of_mem _ he)]
    rfl
theorem sh_int {i : Int} (h : -1000000 ≤ i ∧ i ≤ 1000000) : Sh (.int i) 8 1 := by
  refine ⟨?_, ?_, ?_⟩
  · simp only [PyData.shown]
    exact num_len h
  · simp only [PyData.showable]
    exact decide_eq_true (num_log h)
  · simp only [PyData.depth]
    decide
theorem sh_str {z : Str} {n : Nat} (h : ∀ c ∈ z.cps.toList, c < 16 ^ 8) (hn : z.length ≤ n) : Sh (.str z) (10 * n + 2) 1 := by
  refine ⟨?_, ?_, ?_⟩
  · simp only [PyData.shown]
    have := StrLaws.reprText_len z h
    omega
  · simp only [PyData.showable]
  · simp only [PyData.depth]
    decide
theorem sh_bool (b : Bool) : Sh (.bool b) 5 1 := by
  cases b <;> exact ⟨by decide +kernel, by simp only [PyData.showable], by simp only [PyData.depth]; decide⟩
theorem all_deep : ∀ {ds : List PyData} {k : Nat}, (∀ d ∈ ds, d.depth ≤ k) → PyData.depthAll ds ≤ k
  | [], k, _ => by
    simp only [PyData.depthAll]
    exact Nat.zero_le _
  | d :: ds, k, h => by
    have h1 := h d (List.mem_cons_self ..)
    have h2 := all_deep fun e he => h e (List.mem_cons_of_mem _ he)
    simp only [PyData.depthAll]
    omega
theorem sh_tup {ds : List PyData} {n k : Nat} (h : ∀ d ∈ ds, Sh d n k) : Sh (.tuple ds) (ds.length * (n + 2) + 3) (k + 1) := by
  refine ⟨?_, ?_, ?_⟩
  · simp only [PyData.shown]
    have h1 := tup_le (PyData.shownAll ds)
    have h2 := all_sum fun d hd => (h d hd).len
    rw [all_len] at h1
    rw [Nat.mul_add]
    omega
  · simp only [PyData.showable]
    exact all_show fun d hd => (h d hd).sh
  · have := all_deep fun d hd => (h d hd).dp
    simp only [PyData.depth]
    omega
theorem sh_lst {ds : List PyData} {n k : Nat} (h : ∀ d ∈ ds, Sh d n k) : Sh (.list ds) (ds.length * (n + 2) + 2) (k + 1) := by
  refine ⟨?_, ?_, ?_⟩
  · simp only [PyData.shown]
    have h1 := list_le (PyData.shownAll ds)
    have h2 := all_sum fun d hd => (h d hd).len
    rw [all_len] at h1
    rw [Nat.mul_add]
    omega
  · simp only [PyData.showable]
    exact all_show fun d hd => (h d hd).sh
  · have := all_deep fun d hd => (h d hd).dp
    simp only [PyData.depth]
    omega
end Sz
set_option Elab.async false
set_option linter.all false
set_option maxRecDepth 100000
set_option maxHeartbeats 8000000
namespace L2
open PySem PySem.Spec PyProof.Rows
def rNeE (K : PySem.W.Frag) : R2 := fun x y H Q => ∃ a b xs, x = .ref a ∧ y = .ref b ∧ SqL K H a xs ∧ SqL K H b [] ∧ Q (.bl (!xs.isEmpty)) H
section
variable {X : Cx}
theorem op_neE (hu : X.A.units + 64 < cLine) : OpR X (compareOp .NotEq) (rNeE X.K) := by
  intro pins s σ H x y v u Q I rx ry h
  obtain ⟨a, b, xs, rfl, rfl, ha, hb, q⟩ := h
  cases xs with
  | nil =>
    exact op_neD hu pins s σ H _ _ _ _ Q I rx ry ⟨.list [], .list [], .lst ha .nil, .lst hb .nil, by decide +kernel, by decide +kernel, q⟩
  | cons z zs =>
    cases rx
    cases ry
    obtain ⟨ia, ra, ⟨oa, na, ha1, ha2, _, ha3⟩, _⟩ := I.list ha
    obtain ⟨ib, rb, ⟨ob, nb, hb1, hb2, _, hb3⟩, _⟩ := I.list hb
    cases rb
    cases ra with
    | cons r1 r2 =>
    exact EqBoolInt.of_rcne (SeqAt.RcNeAt.lists_lengths ⟨oa, ha1, ha2, na, ha3⟩ ⟨ob, hb1, hb2, nb, hb3⟩ (by simp) (by omega)) ⟨.bl true, H, I, rfl, q⟩
end
end L2
namespace K5
open PySem PySem.Spec PyProof.Rows L2 L2H Gd Rl Hy Fx Vd LamX Ow
open Pg (fD Wd2 Wd3 badT fmB lenD getP_at fm_is spLst sLst OutV Mo rTupOf rlSc lcSc asgV VA Nl nl_same nl_upd nl_del seqT_nl iteDN iteDY with0)
open Dd (Bd)
abbrev sRi : Stmt := top 33
abbrev lamQ : Str := (envOfC "_law_right" (defScope sRi) 0 0 .none).qual ++ "<lambda>"
abbrev nRi : List Str := ["_law_well_here", "_law_turn", "_law_size", "_law_tests", "_law_shape", "_law_some", "_law_due_here", "_law_told", "_law_j", "_law_k"]
theorem scRi : FnScope nRi ["_law_well_here"] (defScope sRi) := ⟨rfl, rfl, rfl, by decide +kernel, rfl, by decide +kernel, by decide +kernel⟩
def forB : Stmt → List Stmt
  | .For _ _ b _ _ => b
  | _ => []
theorem kb_lst {K : PySem.W.Frag} {f : Addr} {fd : FuncData} (F : FnP K "least" sLst f fd) : KBn K fd ["tests", "form"] 0 ["form", "tests"] (fun _ ws => ws.reverse) (fun _ zs => zs.reverse) := by
  obtain ⟨oc, od, dV, kV, doc, pm, an, cdv, ct, osl, rfl, lk, hcd, hD, hK⟩ := F.ex
  rcases hD with ⟨_, rfl⟩ | ⟨e, _⟩
  · exact ⟨fun s us ws _ l1 l2 => match us, ws, l1, l2 with | [], [_, _], _, _ => .of_eq rfl, fun r1 r2 => r2.reverse⟩
  · exact absurd rfl e
/-- what is drawn lies between these -/
def Ds (n : Nat) (ts : List (List Int)) : Prop := ∀ g ∈ ts, g.length = n ∧ Bd 2 g
theorem but_new {p a : Addr} {H H' : Hp} {o : HO} (n : New H a o H') : But p H H' := But.same n.2.2
theorem well_new {p a : Addr} {H H' : Hp} {o : HO} (h : Well H p) (n : New H a o H') : Well H' p := h.same n.2.2
theorem well_upd {p a : Addr} {H : Hp} {o : HO} (h : Well H p) (ne : a ≠ p) : Well (upd H a o) p := by
  obtain ⟨st, c, o1, h1, h2⟩ := h
  exact ⟨st, c, o1, by rw [upd_ne ne.symm]; exact h1, h2⟩
theorem well_ne {p a : Addr} {H : Hp} (h : Well H p) (n : H a = none) : a ≠ p := fun e => by
  obtain ⟨st, c, o1, h1, h2⟩ := h
  rw [e, h1] at n
  cases n
theorem small5b {r : Int} (h0 : 0 ≤ r) (h5 : r < 5) : (r - 2).natAbs < 2 ^ 2 := by omega
theorem bd_snoc {g : List Int} {z : Int} (h : Bd 2 g) (hz : z.natAbs < 2 ^ 2) : Bd 2 (g ++ [z]) := fun y hy => by
  rcases List.mem_append.mp hy with q | q
  · exact h y q
  · rw [List.mem_singleton.mp q]
    exact hz
theorem withH {G : Prop} {R : Hp → Prop} (Pr : Hp → Prop) (h : (∀ H, Pr H → R H) → G) (hR : ∀ H, Pr H → R H) : G := h hR
theorem wd2_f (g : List Int) (h : g.length ≤ 1000) : Wd2 (fD g) := fun ds e => by
  have : g.map PyData.int = ds := PyData.tuple.inj e
  subst this
  refine ⟨by rw [List.length_map]; exact h, fun x hx es q => ?_⟩
  obtain ⟨z, _, rfl⟩ := List.mem_map.mp hx
  cases q
theorem withV {G : Prop} {R : V → Hp → Prop} (Pr : V → Hp → Prop) (h : (∀ v H, Pr v H → R v H) → G) (hR : ∀ v H, Pr v H → R v H) : G := h hR
theorem form_ok {g : List Int} (l : g.length ≤ 4) (b : Bd 2 g) : OkE (fD g) := by
  have q := Sz.sh_tup (ds := g.map PyData.int) (n := 8) (k := 1) fun d hd => by
    obtain ⟨z, hz, rfl⟩ := List.mem_map.mp hd
    have := b z hz
    exact Sz.sh_int (by omega)
  rw [List.length_map] at q
  exact ⟨q.sh, Nat.le_trans q.dp (by decide), Nat.le_trans q.len (by omega), wd2_f g (by omega)⟩
theorem eqv_same {d : PyData} (h : d.plain = true) : (!PyData.eqv d d) = false := by
  rw [SeqAt.eqv_refl_plain d h]; rfl
theorem va_vp {K : PySem.W.Frag} {H : Hp} {ys : List V} {ts : List (List Int)} (h : VA K H ys ts) : VpAll K H ys (ts.map fD) := by
  refine vp_dpAll _ (Rl.dp_of (by rw [h.1, List.length_map]) fun i v e => ?_)
  obtain ⟨a, rfl, ha⟩ := h.2 i v e
  have hi : i < ts.length := by rw [← h.1]; exact (List.getElem?_eq_some_iff.mp e).1
  refine ⟨fD (ts.getD i []), ?_, Pg.dp_ints ha⟩
  rw [List.getElem?_map, List.getD_eq_getElem?_getD, List.getElem?_eq_getElem hi]
  rfl
theorem vp_set {K : PySem.W.Frag} {H : Hp} {v : V} {d : PyData} (hv : Vp K H v d) : ∀ {ys : List V} {ds : List PyData} (i : Nat), VpAll K H ys ds → VpAll K H (ys.set i v) (ds.set i d)
  | _, _, _, .nil => .nil
  | _, _, 0, .cons a b => .cons hv b
  | _, _, i + 1, .cons a b => .cons a (vp_set hv i b)
/-- the tests as they stand in the list at D -/
def Tst (K : PySem.W.Frag) (p D : Addr) (H : Hp) : Prop := ∃ (ys : List V) (ds : List PyData), H D = some (.lst ys) ∧ VpAll K (delH H p) ys ds ∧ ds.length ≤ 11 ∧ ∀ d ∈ ds, Wd2 d ∧ Two d
theorem Tst.but {K : PySem.W.Frag} {p D : Addr} {H H' : Hp} (h : Tst K p D H) (ne : D ≠ p) (b : But p H H') : Tst K p D H' := by
  obtain ⟨ys, ds, h1, h2, h3, h4⟩ := h
  exact ⟨ys, ds, b _ _ h1 ne, vp_sameAll (same_dels b) h2, h3, h4⟩
theorem f_inj {g h : List Int} (e : fD g = fD h) : g = h := by
  have e2 : g.map PyData.int = h.map PyData.int := PyData.tuple.inj e
  clear e
  induction g generalizing h with
  | nil =>
    cases h with
    | nil => rfl
    | cons y ys => cases e2
  | cons x xs ih =>
    cases h with
    | nil => cases e2
    | cons y ys =>
      rw [List.map_cons, List.map_cons] at e2
      obtain ⟨a, b⟩ := List.cons.inj e2
      rw [PyData.int.inj a, ih b]
theorem two_f {g : List Int} (h : Bd 2 g) : Two (fD g) := fun k e _ => by rw [← f_inj e]; exact h
theorem two_noD {e : PyData} (h : Two e) : Two (noD e) := fun g q l => h g (by
  cases e with
  | dict es => cases q
  | tuple es => exact q
  | int i => cases q
  | bool i => cases q
  | none => cases q
  | str i => cases q
  | list i => cases q) l
theorem dp_strs {K : PySem.W.Frag} {H : Hp} : ∀ zs : List Str, DpAll K H (zs.map V.str) (zs.map PyData.str)
  | [] => .nil
  | z :: zs => .cons (.str z) (dp_strs zs)
theorem plain_strs : ∀ zs : List Str, PyData.plainAll (zs.map PyData.str) = true
  | [] => by simp [PyData.plainAll]
  | z :: zs => by
    rw [List.map_cons, PyData.plainAll, plain_strs zs, PyData.plain]
    rfl
theorem depth_strs : ∀ zs : List Str, PyData.depthAll (zs.map PyData.str) ≤ 1
  | [] => by simp [PyData.depthAll]
  | x :: xs => by
    have := depth_strs xs
    simp only [List.map_cons, PyData.depthAll, PyData.depth]
    omega
theorem plain_two (zs : List Str) : PyData.plain (.list [.list (zs.map PyData.str), .list (zs.map PyData.str)]) = true := by
  simp only [PyData.plain, PyData.plainAll, plain_strs]
  rfl
theorem depth_two (zs : List Str) : PyData.depth (.list [.list (zs.map PyData.str), .list (zs.map PyData.str)]) ≤ 64 := by
  have := depth_strs zs
  simp only [PyData.depth, PyData.depthAll]
  omega
def spRi (T : List (Addr × Str)) : Sp := fun vs H Q _ => ∃ p, vs = [.ref p] ∧ Well H p ∧ Tabs T H ∧ ∀ H', ButT p H H' → Tabs T H' → Q (.bl true) H'
section
variable {P : Program} {w : World} {K : PySem.W.Frag} {mg : Str → Option Value} {base : Heap} {f : Addr} {fd : FuncData} {b0 b1 b2 CN CF cR tR : Addr}
theorem ok_ri {fD' fP fO fU fS fC fL : Addr} {dD dP dO dU dS dC dL : FuncData} (F : FnP K "_law_right" sRi f fd) (T : Bl mg) (M : Mo mg) (U : mg "repr" = none) (Us : mg "str" = none)
    (FD : FnP K "_law_draw" sDraw fD' dD) (gD : mg "_law_draw" = some (.ref fD')) (FP : FnP K "_law_pick" sPick fP dP) (gP : mg "_law_pick" = some (.ref fP)) (FO : FnP K "_law_odd" sOdd fO dO) (gO : mg "_law_odd" = some (.ref fO))
    (FS : FnP K "_law_is_shape" sShp fS dS) (gS : mg "_law_is_shape" = some (.ref fS)) (FU : FnP K "_law_due" sDue fU dU) (gU : mg "_law_due" = some (.ref fU)) (FC : FnP K "_law_caught" sCt fC dC) (gC : mg "_law_caught" = some (.ref fC))
    (FL : FnP K "least" sLst fL dL) (gL : mg "least" = some (.ref fL)) (GL : FnOk P w K mg base (L2.CX P w) 6 fL dL ["tests", "form"] (spLst K CN CF)) (BB : Bas K mg b0 b1 b2) (BU : BlS mg) (ER : Ers K mg b0 b1 b2 CN CF)
    (TB : TabB base mg cR tR) (HC : ∀ c, CodeAt K f c → c = cR) : FnG P w K mg base 9 f fd ["_law_well_here"] (spRi [(tR, lamQ)]) := by
  have GD : FnOk P w K mg base CX0 1 fD' dD ["_law_well_here", "_law_many"] spDraw := ok_draw FD T
  have bD : Binds K dD ["_law_well_here", "_law_many"] [] := FD.bindsN fun _ _ _ _ _ _ us hl => match us, hl with | [_, _], _ => rfl
  have GP : FnOk P w K mg base CX0 2 fP dP ["_law_well_here", "_law_choices"] (spPick K) := ok_pick FP T FD gD
  have bP : Binds K dP ["_law_well_here", "_law_choices"] [] := FP.bindsN fun _ _ _ _ _ _ us hl => match us, hl with | [_, _], _ => rfl
  have GO : FnOk P w K mg base CX0 3 fO dO ["_law_well_here", "_law_size"] (spOdd K) := ok_odd FO T FP gP FD gD
  have bO : Binds K dO ["_law_well_here", "_law_size"] [] := FO.bindsN fun _ _ _ _ _ _ us hl => match us, hl with | [_, _], _ => rfl
  have GU : FnG P w K mg base 2 fU dU ["_law_tests", "_law_shape"] (spDue K) := ok_due FU M U Us FS gS
  have bU : Binds K dU ["_law_tests", "_law_shape"] [] := FU.bindsN fun _ _ _ _ _ _ us hl => match us, hl with | [_, _], _ => rfl
  have bC : Binds K dC ["_law_act"] [] := FC.bindsN fun _ _ _ _ _ _ us hl => match us, hl with | [_], _ => rfl
  have bL : Binds K dL ["tests", "form"] [] := FL.bindsN fun _ _ _ _ _ _ us hl => match us, hl with | [_, _], _ => rfl
  have kC := FC.kp
  obtain ⟨oc, od, dV', kV', doc, pm, an, cdn, ct, osl, rfl, lkC, hcdC, _, _⟩ := FC.ex
  refine okGc F scRi (fun vs H Q E h => ?_) (fun c A outer s H vs Q E hcode hgd hr h => ?_)
  · obtain ⟨p, rfl, _⟩ := h
    rfl
  · obtain ⟨p, rfl, hp, hT, k⟩ := h
    cases HC c hcode
    have hr1 := hr.mono (show 1 ≤ 8 by decide)
    have hr2 := hr.mono (show 2 ≤ 8 by decide)
    have hr3 := hr.mono (show 3 ≤ 8 by decide)
    have hr8 := hr.mono (show 6 + 2 ≤ 8 by decide)
    refine ⟨_, PSs.nox <| pss_cons (ps_for PassesOwn.never rfl (pi_range1 (by rfl) M.range (pa_cons pe_int pa_nil)) (pg_name (i := 1) scRi.nd rfl (.inl rfl))
        (pss_cons (ps_set (i := 2) scRi.nd rfl (.inr rfl) (pe_op op_add pe_int (pe_call GD hr1 (by rfl) gD FD.kp bD .nil pass0 (pa_cons (pv 0) (pa_cons pe_int pa_nil)))))
        <| pss_cons (ps_setLc (i := 3) (own := [("_law_k", 9)]) (g := gName 9) (tt := tYes) rfl scRi.nd rfl rfl (sw_true rfl rfl rfl (by decide +kernel)) (pi_range1 (by rfl) M.range (pa_cons (pe_call GP hr2 (by rfl) gP FP.kp bP .nil pass0 (pa_cons (pv 0) (pa_cons (pe_lstR <| pa_cons pe_int <| pa_cons pe_int <| pa_cons pe_int <| pa_cons pe_int <| pa_cons pe_int <| pa_cons pe_int <| pa_cons pe_int pa_nil) pa_nil))) pa_nil)) (blkOk_by (N := nRi) (sc := defScope sRi) (by decide +kernel)) (fun _ _ _ _ _ => pg_name (i := 9) scRi.nd rfl (Or.inl rfl)) (fun _ _ _ _ _ => pts_nil)
            (fun _ _ _ _ _ => pe_callTy (r := rTupOf K) call_tuple_of (by rfl) M.tuple (by decide +kernel) (pa_cons (pe_lc (own := [("_law_j", 8)]) (g := gName 8) (tt := tYes) rfl scRi.nd (pi_range1 (by rfl) M.range (pa_cons (pv 2) pa_nil)) (blkOk_by (N := nRi) (sc := rlSc (lcSc (asgV ((forB ((defBody sRi).getD 0 (.Pass ⟨0, 0, 0, 0⟩))).getD 1 (.Pass ⟨0, 0, 0, 0⟩)))) (defScope sRi)) (by decide +kernel)) (fun _ _ _ _ _ => pg_name (i := 8) scRi.nd rfl (Or.inl rfl)) (fun _ _ _ _ _ => pts_nil)
              (fun _ _ _ _ _ => pe_op op_sub (pe_call GD hr1 (by rfl) gD FD.kp bD .nil pass0 (pa_cons (pv 0) (pa_cons pe_int pa_nil))) pe_int)) pa_nil)))
        <| pss_cons (ps_set (i := 4) scRi.nd rfl (.inr rfl) (pe_callTy call_tuple_of (by rfl) M.tuple (by decide +kernel) (pa_cons (pe_lc (own := [("_law_j", 8)]) (g := gName 8) (tt := tYes) rfl scRi.nd (pi_range1 (by rfl) M.range (pa_cons (pv 2) pa_nil)) (blkOk_by (N := nRi) (sc := defScope sRi) (by decide +kernel)) (fun _ _ _ _ _ => pg_name (i := 8) scRi.nd rfl (Or.inl rfl)) (fun _ _ _ _ _ => pts_nil)
              (fun _ _ _ _ _ => pe_op op_sub (pe_call GD hr1 (by rfl) gD FD.kp bD .nil pass0 (pa_cons (pv 0) (pa_cons pe_int pa_nil))) pe_int)) pa_nil)))
        <| pss_cons (ps_if (PW.pt (pw_and (pt_cmpR (op_neE hr.units) (pv 3) (pe_lstR pa_nil) (nomark _)) (pw_and1 (pt_cmpR op_eq (pe_call GD hr1 (by rfl) gD FD.kp bD .nil pass0 (pa_cons (pv 0) (pa_cons pe_int pa_nil))) pe_int (nomark _)))))
            (pss_one (ps_asg (pe_call GO hr3 (by rfl) gO FO.kp bO .nil pass0 (pa_cons (pv 0) (pa_cons (pv 2) pa_nil))) (pg_sub (pv 3) (pe_call GD hr1 (by rfl) gD FD.kp bD .nil pass0 (pa_cons (pv 0) (pa_cons (pe_callB call_len (by rfl) T.len PySem.boot_len (pa_cons (pv 3) pa_nil)) pa_nil))) set_list))) pss_nil)
        <| pss_cons (ps_set (i := 4) scRi.nd rfl (.inr rfl) (pe_ifExp (pt_cmpR op_gt (pe_call GD hr1 (by rfl) gD FD.kp bD .nil pass0 (pa_cons (pv 0) (pa_cons pe_int pa_nil))) pe_int (nomark _)) (pv 4) (pe_call GO hr3 (by rfl) gO FO.kp bO .nil pass0 (pa_cons (pv 0) (pa_cons (pv 2) pa_nil)))))
        <| pss_cons (ps_set (i := 5) scRi.nd rfl (.inr rfl) (pe_call GP hr2 (by rfl) gP FP.kp bP .nil pass0 (pa_cons (pv 0) (pa_cons (pe_op op_catR (pe_op op_repR (pe_lstR (pa_cons (pe_callTy call_tuple_of (by rfl) M.tuple (by decide +kernel) (pa_cons (pv 3) pa_nil)) pa_nil)) pe_int) (pe_lstR (pa_cons (pv 3) (pa_cons pe_non (pa_cons pe_dnewR pa_nil))))) pa_nil))))
        <| pss_cons (ps_set (i := 6) scRi.nd rfl (.inl rfl) (pe_callG GU hgd hr2 (by rfl) gU FU.kp bU (pa_cons (pv 5) (pa_cons (pv 4) pa_nil))))
        <| pss_cons (ps_set (i := 7) scRi.nd rfl (.inl rfl) (pe_lstR (pa_cons (pe_lamcall (T := [(tR, lamQ)]) (TT := TTc K CN CF) (by rfl) gC kC lkC hcdC bC scCt rfl (.inl rfl) (caught_gives rfl rfl hr2 hgd BB BU ER) TB rfl (List.mem_singleton.mpr rfl) (fun q hq _ => by rw [List.mem_singleton.mp hq]; rfl) hr8 (lamS_by (by show lamSB (defScope sRi) _ = true; decide +kernel)) rfl (fun _ _ _ _ _ => rfl)
              (fun A outer s H E f c' hr' => pe_call (E := E) GL hr' (by rfl) gL FL.kp bL .nil (passes_call (takes_of rfl rfl rfl rfl) fun _ _ _ _ h => h) (pa_cons (pv 5) (pa_cons (pv 4) pa_nil)))) pa_nil)))
        <| pss_cons (ps_expr (pe_bm PySem.F.plainAttrs_list PySem.F.slot_list_append PySem.F.type_list_append mt_append (pv 7) (pa_cons (pe_lamcall (T := [(tR, lamQ)]) (TT := TTc K CN CF) (by rfl) gC kC lkC hcdC bC scCt rfl (.inl rfl) (caught_gives rfl rfl hr2 hgd BB BU ER) TB rfl (List.mem_singleton.mpr rfl) (fun q hq _ => by rw [List.mem_singleton.mp hq]; rfl) hr8 (lamS_by (by show lamSB (defScope sRi) _ = true; decide +kernel)) rfl (fun _ _ _ _ _ => rfl)
              (fun A outer s H E f c' hr' => pe_callK0 (E := E) GL hr' (by rfl) gL FL.kp (kb_lst FL) (passes_call (takes_of rfl rfl rfl rfl) fun _ _ _ _ h => h) (pk_cons (pv 4) (pk_cons (pv 5) pk_nil)))) pa_nil)))
        <| pss_one (ps_if (pt_cmpR (op_neP hr.units) (pv 7) (pe_lstR (pa_cons (pv 6) (pa_cons (pv 6) pa_nil))) (nomark _)) (pss_one (ps_ret pe_bl)) pss_nil)))
      <| pss_one (ps_ret pe_bl), ?_⟩
    refine ⟨6, rfl, by decide, by decide, for_range (n := 6) (fun i σ H' => ∃ x1 x2 x3 x4 x5 x6 x7 x8 x9 : Option V, σ = [some (.ref p), x1, x2, x3, x4, x5, x6, x7, x8, x9] ∧ Well H' p ∧ Tabs [(tR, lamQ)] H' ∧ ButT p H H') ⟨none, none, none, none, none, none, none, none, none, rfl, hp, hT, ButT.refl⟩ ?_ ?_⟩
    · rintro i σ H1 hi ⟨x1, x2, x3, x4, x5, x6, x7, x8, x9, rfl, hp1, t1, b1⟩
      refine ⟨_, rfl, p, _, rfl, hp1, by decide, by decide, fun r H2 r0 r3 hp2 b2 => ⟨_, _, rfl, rfl, ?_⟩⟩
      obtain ⟨n, hn, n2, n4⟩ : ∃ n : Nat, (2 : Int) + r = n ∧ 2 ≤ n ∧ n ≤ 4 := ⟨(2 + r).toNat, by omega, by omega, by omega⟩
      rw [show ((fun i j : Int => V.int (i + j)) 2 r : V) = V.int (n : Nat) from congrArg V.int hn]
      refine ⟨_, rfl, by show 7 ≤ 1000; decide, fun l H3 n3 => ?_⟩
      have hp3 := well_new hp2 n3
      refine ⟨p, l, _, rfl, hp3, n3.2.1, well_ne hp2 n3.1, by show 0 < 7; decide, by show 7 ≤ 1000; decide, fun j x H4 ex hp4 b4 => ?_⟩
      obtain ⟨c, rfl, hc⟩ : ∃ c : Nat, x = .int c ∧ c ≤ 11 := by
        have m := List.mem_of_getElem? ex
        simp only [List.mem_cons, List.not_mem_nil, or_false] at m
        rcases m with rfl | rfl | rfl | rfl | rfl | rfl | rfl
        · exact ⟨0, rfl, by decide⟩
        · exact ⟨1, rfl, by decide⟩
        · exact ⟨2, rfl, by decide⟩
        · exact ⟨3, rfl, by decide⟩
        · exact ⟨9, rfl, by decide⟩
        · exact ⟨10, rfl, by decide⟩
        · exact ⟨11, rfl, by decide⟩
      have b14 : But p H1 H4 := (b2.trans (but_new n3)).trans b4
      refine ⟨_, rfl, by omega, by omega, fun D hD => ?_⟩
      refine lc_range (lo := 0) (n := ((c : Nat) : Int).toNat) (fun i H' => ∃ (ys : List V) (ts : List (List Int)), H' D = some (.lst ys) ∧ VA K H' ys ts ∧ ts.length = i ∧ Ds n ts ∧ Well H' p ∧ But p H4 H') ⟨[], [], upd_same, Pg.VA.nil, rfl, (fun g hg => by cases hg), well_upd hp4 (well_ne hp4 hD), But.same (same_new hD)⟩ ?_ ?_
      · rintro i2 H5 hi2 ⟨ys, ts, hD5, hys, hl, hds, hp5, b5⟩
        have dp : D ≠ p := well_ne hp4 hD
        refine ⟨rfl, _, rfl, _, rfl, by omega, by omega, fun D2 hD2 => ?_⟩
        have d2p : D2 ≠ p := well_ne hp5 hD2
        refine lc_range (lo := 0) (n := ((n : Nat) : Int).toNat) (fun i H' => ∃ g : List Int, g.length = i ∧ Bd 2 g ∧ H' D2 = some (.lst (g.map V.int)) ∧ Well H' p ∧ But p H5 H') ⟨[], rfl, (fun _ h => by cases h), upd_same, well_upd hp5 d2p, But.same (same_new hD2)⟩ ?_ ?_
        · rintro j2 H6 hj2 ⟨g, lg, hg, hD6, hp6, b6⟩
          refine ⟨rfl, _, rfl, p, _, rfl, hp6, by decide, by decide, fun z H7 z0 z1 hp7 b7 => ?_⟩
          have hD7 := b7 D2 _ hD6 d2p
          refine ⟨_, _, rfl, rfl, _, hD7, small1000 (by rw [List.length_map]; omega), g ++ [z - 2], by rw [List.length_append, lg]; rfl, bd_snoc hg (small5b z0 z1), ?_, well_upd hp7 d2p, ?_⟩
          · rw [upd_same, List.map_append]
            rfl
          · intro b o e nb
            rw [upd_ne (ne_of_none e hD2)]
            exact b7 b o (b6 b o e nb) nb
        · rintro H6 ⟨g, lg, hg, hD6, hp6, b6⟩
          refine ⟨D2, _, rfl, .inl ⟨SqL.of hD6, fun q nq => ?_⟩⟩
          have hDq := b6 D _ hD5 dp
          have nl56 := b6.nl hp5
          have s67 : Same H6 (upd H6 q (.tup (g.map V.int))) := same_new nq
          refine ⟨ys, s67 _ _ hDq, small1000 (by have := hys.1; omega), ys ++ [.ref q], ts ++ [g], upd_same, ?_, by rw [List.length_append, hl]; rfl, fun g' hg' => ?_, well_upd (hp6.same s67) dp, ?_⟩
          · exact ((((hys.nl nl56).same s67).push (SqT.of upd_same)).nl (nl_upd (s67 _ _ hDq)))
          · rcases List.mem_append.mp hg' with z | z
            · exact hds g' z
            · rw [List.mem_singleton.mp z]
              exact ⟨by omega, hg⟩
          · intro b o e nb
            rw [upd_ne (ne_of_none e hD)]
            exact s67 _ _ (b6 b o (b5 b o e nb) nb)
      · rintro H5 ⟨ys, ts, hD5, hys, hl, hds, hp5, b5⟩
        have dp : D ≠ p := well_ne hp4 hD
        have b15 := b14.trans b5
        refine ⟨_, rfl, _, rfl, by omega, by omega, fun D2 hD2 => ?_⟩
        have d2p : D2 ≠ p := well_ne hp5 hD2
        refine lc_range (lo := 0) (n := ((n : Nat) : Int).toNat) (fun i H' => ∃ g : List Int, g.length = i ∧ Bd 2 g ∧ H' D2 = some (.lst (g.map V.int)) ∧ Well H' p ∧ But p H5 H') ⟨[], rfl, (fun _ h => by cases h), upd_same, well_upd hp5 d2p, But.same (same_new hD2)⟩ ?_ ?_
        · rintro j2 H6 hj2 ⟨g, lg, hg, hD6, hp6, b6⟩
          refine ⟨rfl, _, rfl, p, _, rfl, hp6, by decide, by decide, fun z H7 z0 z1 hp7 b7 => ?_⟩
          have hD7 := b7 D2 _ hD6 d2p
          refine ⟨_, _, rfl, rfl, _, hD7, small1000 (by rw [List.length_map]; omega), g ++ [z - 2], by rw [List.length_append, lg]; rfl, bd_snoc hg (small5b z0 z1), ?_, well_upd hp7 d2p, ?_⟩
          · rw [upd_same, List.map_append]
            rfl
          · intro b o e nb
            rw [upd_ne (ne_of_none e hD2)]
            exact b7 b o (b6 b o e nb) nb
        · rintro H6 ⟨g, lg, hg, hD6, hp6, b6⟩
          refine ⟨D2, _, rfl, .inl ⟨SqL.of hD6, fun q nq => ?_⟩⟩
          have s67 : Same H6 (upd H6 q (.tup (g.map V.int))) := same_new nq
          have hq7 : SqT K (upd H6 q (.tup (g.map V.int))) q (g.map V.int) := SqT.of upd_same
          have hp7 := hp6.same s67
          have hD7 := s67 _ _ (b6 D _ hD5 dp)
          have hys7 := (hys.nl (b6.nl hp5)).same s67
          have b17 : But p H1 (upd H6 q (.tup (g.map V.int))) := (b15.trans b6).trans (But.same s67)
          generalize upd H6 q (.tup (g.map V.int)) = H7 at s67 hq7 hp7 hD7 hys7 b17 ⊢
          apply withH (fun H' => Tst K p D H' ∧ Well H' p ∧ But p H1 H' ∧ SqT K H' q (g.map V.int))
          · intro kR
            have tst7 : Tst K p D H7 := by
              obtain ⟨st, cc, o, h1, _⟩ := id hp7
              refine ⟨ys, ts.map fD, hD7, va_vp (hys7.nl (nl_del h1)), by rw [List.length_map]; omega, fun d hd => ?_⟩
              obtain ⟨t, ht, rfl⟩ := List.mem_map.mp hd
              obtain ⟨l1, l2⟩ := hds t ht
              exact ⟨wd2_f t (by omega), two_f l2⟩
            refine ⟨_, rfl, by show 0 ≤ 1000; decide, fun l2 H8 n8 => ⟨D, l2, ys, rfl, rfl, SqL.of (n8.2.2 _ _ hD7), SqL.of n8.2.1, _, rfl, ?_⟩⟩
            have b8 : But p H7 H8 := But.same n8.2.2
            have hp8 := well_new hp7 n8
            have hD8 := n8.2.2 _ _ hD7
            have tst8 := tst7.but dp b8
            have hq8 := Same.seqT n8.2.2 hq7
            cases hye : ys.isEmpty with
            | true => exact iteF (kR H8 ⟨tst8, hp8, b17.trans b8, hq8⟩)
            | false =>
              refine iteT ?_
              have hpos : 0 < ys.length := by
                cases ys with
                | nil => cases hye
                | cons => simp
              refine ⟨_, rfl, p, _, rfl, hp8, by decide, by decide, fun z H9 z0 z1 hp9 b9 => ⟨rfl, _, rfl, ?_⟩⟩
              have b79 := b8.trans b9
              have nl9 := b9.nl hp8
              by_cases hz : z = 0
              · refine iteDY (by rw [hz]) ?_
                refine ⟨_, rfl, _, rfl, p, n, rfl, hp9, n2, n4, fun v e H10 th thD hp10 b10 => ?_⟩
                have hD9 := b9 _ _ hD8 dp
                have hD10 := b10 _ _ (b9 _ _ hD8 dp) dp
                refine ⟨_, rfl, _, rfl, _, rfl, _, ys.length, rfl, .inl ⟨_, SqL.of hD10, rfl⟩, p, _, rfl, hp10, by omega, by have := hys.1; omega, fun r' H11 r0' r1' hp11 b11 => ?_⟩
                have hD11 := b11 _ _ hD10 dp
                have lys := hys.1
                refine ⟨D, ys, r', r'.toNat, rfl, rfl, hD11, ?_, ?_⟩
                · unfold ixN
                  rw [if_pos (by omega), if_pos (by omega)]
                · have sD : Same (delH (delH H10 p) D) (delH (upd H11 D (.lst (ys.set r'.toNat v))) p) := fun b o eb => by
                    by_cases q1 : b = D
                    · rw [q1, delH_same] at eb
                      cases eb
                    · rw [delH_ne q1] at eb
                      by_cases q2 : b = p
                      · rw [q2, delH_same] at eb
                        cases eb
                      · rw [delH_ne q2] at eb
                        rw [delH_ne q2, upd_ne q1]
                        exact b11 _ _ eb q2
                  have b711 : But p H7 H11 := (b79.trans b10).trans b11
                  have nl711 := b711.nl hp7
                  have nlU : Nl H11 (upd H11 D (.lst (ys.set r'.toNat v))) := nl_upd hD11
                  have hpU := well_upd (o := .lst (ys.set r'.toNat v)) hp11 dp
                  have nlP : Nl (upd H11 D (.lst (ys.set r'.toNat v))) (delH (upd H11 D (.lst (ys.set r'.toNat v))) p) := by
                    obtain ⟨st, cc, o, h1, _⟩ := id hpU
                    exact nl_del h1
                  refine kR _ ⟨⟨ys.set r'.toNat v, (ts.map fD).set r'.toNat (noD e), upd_same, vp_set (vp_same sD (vp_rp (thD D ys hD9))) _ (va_vp (((hys7.nl nl711).nl nlU).nl nlP)), by rw [List.length_set, List.length_map]; omega, fun d hd => ?_⟩, hpU, fun b o eb nb => ?_, seqT_nl nlU (seqT_nl nl711 hq7)⟩
                  · rcases List.mem_or_eq_of_mem_set hd with q | q
                    · obtain ⟨t, ht, rfl⟩ := List.mem_map.mp q
                      obtain ⟨l1, l2⟩ := hds t ht
                      exact ⟨wd2_f t (by omega), two_f l2⟩
                    · rw [q]
                      exact ⟨th.2.1.wd, two_noD th.2.2⟩
                  · rw [upd_ne (ne_of_none (b14 b o eb nb) hD)]
                    exact b711 _ _ (b17 b o eb nb) nb
              · refine iteDN (fun e => hz (V.int.inj e)) ?_
                exact kR H9 ⟨tst7.but dp b79, hp9, b17.trans b79, seqT_nl nl9 hq8⟩
          · rintro H8 ⟨tst, hp8, b8, hq8⟩
            apply withV (fun v H' => ∃ e, Rp K (delH H' p) v e ∧ OkE e ∧ Two e ∧ Tst K p D H' ∧ Well H' p ∧ But p H1 H')
            · intro kV
              refine ⟨_, rfl, p, _, rfl, hp8, by decide, by decide, fun z H9 z0 z3 hp9 b9 => ⟨_, _, rfl, rfl, _, rfl, ?_⟩⟩
              by_cases hz : ¬ 0 < z
              · refine iteDN hz ?_
                refine ⟨_, rfl, _, rfl, p, n, rfl, hp9, n2, n4, fun v e H10 th thD hp10 b10 => ?_⟩
                exact kV v H10 ⟨e, th.1, th.2.1, th.2.2, tst.but dp (b9.trans b10), hp10, (b8.trans b9).trans b10⟩
              · refine iteDY (by omega) ?_
                have nlq : Nl H9 (delH H9 p) := by
                  obtain ⟨st, cc, o, h1, _⟩ := id hp9
                  exact nl_del h1
                exact ⟨_, rfl, kV (V.ref q) H9 ⟨fD g, .inl (Pg.dp_ints (seqT_nl nlq (seqT_nl (b9.nl hp8) hq8))), form_ok (by omega) hg, two_f hg, tst.but dp b9, hp9, b8.trans b9⟩⟩
            · rintro v H9 ⟨e, hv9, oe, two, tst9, hp9, b19⟩
              obtain ⟨ys9, ds9, hD9, hys9, ld9, hds9⟩ := tst9
              refine ⟨_, rfl, _, rfl, D, ys9, rfl, .inl ⟨SqL.of hD9, fun T1 nT => ?_⟩⟩
              refine ⟨by show 1 ≤ 1000; decide, fun la HA na => ?_⟩
              refine ⟨la, 7, _, rfl, rfl, na.2.1, by decide, by decide, by show 1 * 7 ≤ 1000; decide, fun lb HB nb => ?_⟩
              refine ⟨_, rfl, fun dA HC ndC => ⟨by show 3 ≤ 1000; decide, fun lc HD nc => ?_⟩⟩
              have sT : Same H9 (upd H9 T1 (.tup ys9)) := same_new nT
              have sAll : Same (upd H9 T1 (.tup ys9)) HD := ((na.2.2.trans nb.2.2).trans ndC.2.2).trans nc.2.2
              refine ⟨lb, lc, _, _, rfl, rfl, nc.2.2 _ _ (ndC.2.2 _ _ nb.2.1), nc.2.1, by show 10 ≤ 1000; decide, fun ld HE ne => ?_⟩
              have s9E := sT.trans (sAll.trans ne.2.2)
              have hpE := hp9.same s9E
              refine ⟨p, ld, _, rfl, hpE, ne.2.1, well_ne (hp9.same (sT.trans sAll)) ne.1, by show 0 < 10; decide, by show 10 ≤ 1000; decide, fun j3 x HF ex hpF bF => ?_⟩
              have b1F : But p H1 HF := (b19.trans (But.same s9E)).trans bF
              have hx : ∃ dd, Vp K (delH HF p) x dd ∧ Wd3 dd ∧ TwoT dd := by
                have sDel : Same (delH HE p) (delH HF p) := same_dels bF
                have m : x = .ref T1 ∨ x = .ref D ∨ x = .non ∨ x = .ref dA := by
                  have m := List.mem_of_getElem? ex
                  rw [show (List.replicate (Int.toNat 7) [V.ref T1]).flatten = [.ref T1, .ref T1, .ref T1, .ref T1, .ref T1, .ref T1, .ref T1] from rfl] at m
                  simp only [List.cons_append, List.nil_append, List.mem_cons, List.not_mem_nil, or_false] at m
                  rcases m with q | q | q | q | q | q | q | q | q | q
                  · exact .inl q
                  · exact .inl q
                  · exact .inl q
                  · exact .inl q
                  · exact .inl q
                  · exact .inl q
                  · exact .inl q
                  · exact .inr (.inl q)
                  · exact .inr (.inr (.inl q))
                  · exact .inr (.inr (.inr q))
                have s9d : Same (delH H9 p) (delH HE p) := same_dels (But.same s9E)
                have vAll := vp_sameAll (s9d.trans sDel) hys9
                rcases m with rfl | rfl | rfl | rfl
                · refine ⟨.tuple ds9, .tup ?_ vAll, fun ds e => ?_, fun ds e => ?_⟩
                  · refine SqT.of (sDel _ _ ?_)
                    rw [delH_ne (well_ne hp9 nT)]
                    exact ne.2.2 _ _ (sAll _ _ upd_same)
                  · have : ds9 = ds := PyData.tuple.inj e
                    subst this
                    exact ⟨by omega, fun y hy => (hds9 y hy).1⟩
                  · have : ds9 = ds := PyData.tuple.inj e
                    subst this
                    exact fun y hy => (hds9 y hy).2
                · refine ⟨.list ds9, .lst (SqL.of (sDel _ _ ?_)) vAll, (fun ds e => by cases e), (fun ds e => by cases e)⟩
                  rw [delH_ne dp]
                  exact s9E _ _ hD9
                · exact ⟨.none, .non, (fun ds e => by cases e), (fun ds e => by cases e)⟩
                · refine ⟨.dict [], .dct (kvs := []) (sDel _ _ ?_), (fun ds e => by cases e), (fun ds e => by cases e)⟩
                  rw [delH_ne (well_ne (hp9.same (sT.trans (na.2.2.trans nb.2.2))) ndC.1)]
                  exact ne.2.2 _ _ (nc.2.2 _ _ ndC.2.1)
              obtain ⟨dd, hv, wd, tt⟩ := hx
              have hvF := vp_same Pg.del_same hv
              have huF : Rp K HF v e := rp_same (same_dels ((But.same s9E).trans bF)|>.trans Pg.del_same) hv9
              have tF := tabs_but t1 hp1 b1F
              refine ⟨_, rfl, _, rfl, x, v, dd, e, rfl, hvF, huF, oe, wd, fun zs l1 G1 due s1 nl1 h1 => ?_⟩
              refine ⟨tabs_same tF s1, fun G2 e2 t2 => ?_⟩
              refine tt_lst (vp_ext e2 _ (vp_same s1 hvF)) (rp_ext e2 (rp_same s1 huF)) oe two wd tt due (fun l2 G3 s3 nl2 h2 => ?_) (htl := fun E Q' h => ⟨_, rfl, _, rfl, h⟩)
              refine ⟨by show 1 ≤ 1000; decide, fun l3 G4 n4 => ?_⟩
              have t4 := tabs_same (tabs_same t2 s3) n4.2.2
              refine ⟨_, rfl, .inl ⟨rfl, _, SqL.of n4.2.1⟩, t4, fun G5 e5 t5 => ?_⟩
              have e15 : ExtN G1 G5 := fun b o eb nb => e5 _ _ (n4.2.2 _ _ (s3 _ _ (e2 _ _ eb nb))) nb
              refine tt_lst (vp_ext e15 _ (vp_same s1 hvF)) (rp_ext e15 (rp_same s1 huF)) oe two wd tt due (fun l5 G6 s6 nl5 h5 => ?_) (htl := fun E Q' h => ⟨_, rfl, _, rfl, rfl, h⟩)
              have e46 : ExtN G4 G6 := fun b o eb nb => s6 _ _ (e5 _ _ eb nb)
              have h3 : G6 l3 = some (.lst [.ref l2]) := e46 _ _ n4.2.1 fun _ z => nomatch z
              refine ⟨l3, _, _, rfl, rfl, h3, by show 1 < sizeLine; decide, ?_⟩
              refine ⟨_, rfl, _, rfl, _, rfl, by show 2 ≤ 1000; decide, fun l8 G8 n8 => ?_⟩
              have n13 : l1 ≠ l3 := ne_of_none (s3 _ _ (e2 _ _ h1 fun _ z => nomatch z)) n4.1
              have n23 : l2 ≠ l3 := ne_of_none h2 n4.1
              have n53 : l5 ≠ l3 := fun q => by
                have := e5 _ _ n4.2.1 fun _ z => nomatch z
                rw [← q, nl5] at this
                cases this
              have g1 : G8 l1 = some (.lst (zs.map V.str)) := n8.2.2 _ _ (by rw [upd_ne n13]; exact s6 _ _ (e15 _ _ h1 fun _ z => nomatch z))
              have g2 : G8 l2 = some (.lst (zs.map V.str)) := n8.2.2 _ _ (by rw [upd_ne n23]; exact e46 _ _ (n4.2.2 _ _ h2) fun _ z => nomatch z)
              have g5 : G8 l5 = some (.lst (zs.map V.str)) := n8.2.2 _ _ (by rw [upd_ne n53]; exact h5)
              have g3 : G8 l3 = some (.lst [.ref l2, .ref l5]) := n8.2.2 _ _ upd_same
              have dz : ∀ l, G8 l = some (.lst (zs.map V.str)) → Dp K G8 (.ref l) (.list (zs.map PyData.str)) := fun l hl => .lst (.of hl) (dp_strs zs)
              refine ⟨.list [.list (zs.map PyData.str), .list (zs.map PyData.str)], .list [.list (zs.map PyData.str), .list (zs.map PyData.str)], .lst (.of g3) (.cons (dz _ g2) (.cons (dz _ g5) .nil)), .lst (.of n8.2.1) (.cons (dz _ g1) (.cons (dz _ g1) .nil)), plain_two zs, plain_two zs, depth_two zs, _, rfl, ?_⟩
              rw [eqv_same (plain_two zs)]
              refine iteF ?_
              have eF3 : ExtN HF G3 := fun b o eb nb => s3 _ _ (e2 _ _ (s1 _ _ eb) nb)
              have hp4 : Well G4 p := (hpF.ext eF3).same n4.2.2
              have hp6 : Well G6 p := hp4.ext e46
              refine ⟨_, _, _, _, _, _, _, _, _, rfl, (well_upd hp6 (well_ne (hpF.ext eF3) n4.1)).same n8.2.2, tabs_same (tabs_upd (tabs_same t5 s6) h3) n8.2.2, b1.trans ((But.t b1F).trans fun b o eb nb nt => ?_)⟩
              have q3 := eF3 _ _ eb nt
              refine n8.2.2 _ _ ?_
              rw [upd_ne (ne_of_none q3 n4.1)]
              exact e46 _ _ (n4.2.2 _ _ q3) nt
    · rintro σ H1 ⟨x1, x2, x3, x4, x5, x6, x7, x8, x9, rfl, hp1, t1, b1⟩
      exact k H1 b1 t1
end
end K5
set_option Elab.async false
set_option linter.all false
set_option maxRecDepth 100000
set_option maxHeartbeats 4000000
namespace K5
open PySem PySem.Spec PyProof.Rows L2 Gd Rl LamX
open Pg (Mo)
abbrev sLaw : Stmt := top 34
structure Bl3 (mg : Str → Option Value) : Prop where
  max : mg "max" = none
  min : mg "min" = none
def spLaw (K : PySem.W.Frag) (T : List (Addr × Str)) : Sp := fun vs H Q _ => ∃ (a : Addr) (ns : List Int), vs = [.ref a] ∧ SqL K H a (ns.map V.int) ∧ ns.length ≤ 63 ∧ Tabs T H ∧ ∀ H', Q (.bl true) H'
abbrev nLaw : List Str := ["_law_script", "_law_spot"]
theorem scLaw : FnScope nLaw ["_law_script"] (defScope sLaw) := ⟨rfl, rfl, rfl, by decide +kernel, rfl, by decide +kernel, by decide +kernel⟩
section
variable {P : Program} {w : World} {K : PySem.W.Frag} {mg : Str → Option Value} {base : Heap} {f : Addr} {fd : FuncData} {T : List (Addr × Str)}
theorem ok_law {fG fR : Addr} {dG dR : FuncData} (F : FnP K "law" sLaw f fd) (TB : Bl mg) (M0 : Mo mg) (U : Bl3 mg)
    (FG : FnP K "_law_well" sWell fG dG) (gG : mg "_law_well" = some (.ref fG)) (FR : FnP K "_law_right" sRi fR dR) (gR : mg "_law_right" = some (.ref fR)) (GR : FnG P w K mg base 9 fR dR ["_law_well_here"] (spRi T)) : FnG P w K mg base 10 f fd ["_law_script"] (spLaw K T) := by
  have GG : FnOk P w K mg base CX0 1 fG dG ["_law_script", "_law_spot"] (spWell K) := ok_well FG TB
  have bG : Binds K dG ["_law_script", "_law_spot"] [] := FG.bindsN fun _ _ _ _ _ _ us hl => match us, hl with | [_, _], _ => rfl
  have bR : Binds K dR ["_law_well_here"] [] := FR.bindsN fun _ _ _ _ _ _ us hl => match us, hl with | [_], _ => rfl
  refine okG F scLaw (fun vs H Q E h => ?_) (fun cdv A outer s H vs Q E hgd hr h => ?_)
  · obtain ⟨a, ns, rfl, _⟩ := h
    rfl
  · obtain ⟨a, ns, rfl, hS, hn, hT, k1⟩ := h
    have hr1 := hr.mono (show 1 ≤ 9 by decide)
    refine ⟨_, PSs.nox <| pss_one (ps_ret (pe_callB (cr_all rfl) (by rfl) M0.all (by decide +kernel) (pa_cons (pe_lc (own := [("_law_spot", 1)]) (g := gName 1) (tt := tYes) rfl scLaw.nd
          (pi_range1 (by rfl) M0.range (pa_cons (pe_callB (call_max2 rfl) (by rfl) U.max (by decide +kernel) (pa_cons pe_int (pa_cons (pe_callB (call_min2 rfl) (by rfl) U.min (by decide +kernel) (pa_cons (pe_callB call_len (by rfl) M0.len PySem.boot_len (pa_cons (pv 0) pa_nil)) (pa_cons pe_int pa_nil))) pa_nil))) pa_nil))
          (blkOk_by (N := nLaw) (sc := defScope sLaw) (by decide +kernel)) (fun _ _ _ _ _ => pg_name (i := 1) scLaw.nd rfl (Or.inl rfl)) (fun _ _ _ _ _ => pts_nil)
          (fun _ _ _ _ _ => pe_callG GR hgd hr (by rfl) gR FR.kp bR (pa_cons (pe_call GG hr1 (by rfl) gG FG.kp bG .nil pass0 (pa_cons (pv 0) (pa_cons (pv 1) pa_nil))) pa_nil))) pa_nil))), ?_⟩
    refine ⟨_, rfl, _, (ns.map V.int).length, rfl, .inl ⟨_, hS, rfl⟩, _, _, rfl, _, _, rfl, ?_⟩
    generalize hM : (if (if (3 : Int) < ((ns.map V.int).length : Int) then (3 : Int) else ((ns.map V.int).length : Int)) > 2 then (if (3 : Int) < ((ns.map V.int).length : Int) then (3 : Int) else ((ns.map V.int).length : Int)) else 2) = M
    have m0 : 0 ≤ M ∧ M ≤ 4 := by
      rw [← hM]
      split <;> split <;> omega
    refine ⟨M, rfl, by omega, by omega, fun D hD => lc_range (lo := 0) (n := M.toNat) (fun i H' => ExtN H H' ∧ H' D = some (.lst (List.replicate i (V.bl true))) ∧ Tabs T H') ⟨same_ext (same_new hD), upd_same, tabs_same hT (same_new hD)⟩ ?_ ?_⟩
    · rintro i H' hi ⟨sx, hd, ht⟩
      refine ⟨rfl, ?_⟩
      refine ⟨_, rfl, _, rfl, a, ns, i, (by rw [Int.zero_add]; rfl), seqL_ext sx hS, hn, by omega, fun p Hp sp np pp => ?_⟩
      refine ⟨p, rfl, pp, tabs_same ht sp, fun Hq bt tq => ?_⟩
      have hd2 : Hq D = some (.lst (List.replicate i (V.bl true))) := bt D _ (sp _ _ hd) (ne_of_none hd np) fun _ q => nomatch q
      refine ⟨_, hd2, (by rw [List.length_replicate]; exact small1000 (by omega)), fun b u e t => ?_, ?_, tabs_upd tq hd2⟩
      · rw [upd_ne (ne_of_none e hD)]
        exact bt b u (sp _ _ (sx _ _ e t)) (ne_of_none (sx _ _ e t) np) t
      · rw [upd_same, List.replicate_succ']
    · rintro H' ⟨sx, hd, ht⟩
      have hd2 : H' D = some (.lst ((List.replicate M.toNat true).map V.bl)) := by
        rw [List.map_replicate]
        exact hd
      refine ⟨D, _, rfl, SqL.of hd2, ?_⟩
      rw [show (List.replicate M.toNat true).all id = true by simp]
      exact k1 H'
end
end K5
set_option Elab.async false
set_option linter.all false
set_option maxRecDepth 100000
set_option maxHeartbeats 0
namespace K5
open PySem PySem.Spec PyProof.Rows L2 Gd Rl
theorem facts {w : World} {K : PySem.W.Frag} {h : Heap} {mg : Str → Option Value} {f : Addr} (X : K.In h) (G : h.Ns mainGlobals mg) (hfa : mg ("law" : Str) = some (.ref f)) (cc : SaysK K) :
    ∃ fd : FuncData, (∀ (s : Shared) (v : Value), BindsTo s fd ⟨[v], []⟩ [("_law_script", v)]) ∧ ∀ base : Heap, K.In base → base.Ns mainGlobals mg → (∀ p ∈ tf, LamX.TabB base mg (He.cT K p).1 (He.cT K p).2) → FnG (PySem.Challenge.rw_fallranks_k23_least_refused).prog w K mg base 10 f fd ["_law_script"] (spLaw K [((He.cT K ("_law_right", none)).2, lamQ)]) := by
  have c : He.SaysD fa fn K := congrArg (fun z : AlK => z.1) cc
  have c2 : exB K = true := congrArg (fun z : AlK => z.2.1) cc
  have c4 : (el.map fun e => Hz.fnI K (Hz.eI K e.1)) = el.map fun e => Hz.fnV e.2.2.2 := congrArg (fun z : AlK => z.2.2) cc
  obtain ⟨y0, c2⟩ := Bool.and_eq_true_iff.mp c2
  obtain ⟨y1, y2⟩ := Bool.and_eq_true_iff.mp y0
  obtain ⟨kt, gc⟩ := Bool.and_eq_true_iff.mp c2
  obtain ⟨k1, kt⟩ := Bool.and_eq_true_iff.mp kt
  obtain ⟨k2, k3⟩ := Bool.and_eq_true_iff.mp kt
  have gg : mg "gcd" = some (.builtin "math.gcd") := PySem.W.mg_of X G (He.eqO_ok gc)
  have free : ∀ (i : Nat) (x : Str), fa[i]? = some (.free x) → mg x = none := fun i x e => He.free_ok X G (c.fact i (f := .free x) e)
  have glo : ∀ (i : Nat) (x : Str), fa[i]? = some (.glo x) → mg x = some (.ref (He.ga K x)) := fun i x e => He.glo_ok X G (c.fact i (f := .glo x) e)
  obtain ⟨d0, F0⟩ := c.def_ 0 (d := dd "is_integer" Pg.sInt) rfl
  obtain ⟨d1, F1⟩ := c.def_ 1 (d := dd "are_integers" Pg.sInts) rfl
  obtain ⟨d2, F2⟩ := c.def_ 2 (d := dd "weighed" Pg.sWei) rfl
  obtain ⟨d3, F3⟩ := c.def_ 3 (d := dd "least" Pg.sLst) rfl
  obtain ⟨d4, F4⟩ := c.def_ 4 (d := dd "_check_tests" Pg.sChk) rfl
  obtain ⟨d5, F5⟩ := c.def_ 5 (d := dd "_is_any_form" Pg.sAnyF) rfl
  obtain ⟨d6, F6⟩ := c.def_ 6 (d := dd "least_at" Pg.sLat) rfl
  obtain ⟨d7, F7⟩ := c.def_ 7 (d := dd "reach_points" Pg.sRea) rfl
  obtain ⟨d8, F8⟩ := c.def_ 8 (d := dd "lowest" Pg.sLow) rfl
  obtain ⟨d9, F9⟩ := c.def_ 9 (d := dd "arrows" Pg.sArr) rfl
  obtain ⟨d10, F10⟩ := c.def_ 10 (d := dd "_cut" Pg.sCut) rfl
  obtain ⟨d11, F11⟩ := c.def_ 11 (d := dd "_leveled" Pg.sLev) rfl
  obtain ⟨d12, F12⟩ := c.def_ 12 (d := dd "_cut_arrows" Pg.sCa) rfl
  obtain ⟨d13, F13⟩ := c.def_ 13 (d := dd "_are_neighbours" Pg.sNb) rfl
  obtain ⟨d14, F14⟩ := c.def_ 14 (d := dd "_law_well" sWell) rfl
  obtain ⟨d15, F15⟩ := c.def_ 15 (d := dd "_law_draw" sDraw) rfl
  obtain ⟨d16, F16⟩ := c.def_ 16 (d := dd "_law_pick" sPick) rfl
  obtain ⟨d17, F17⟩ := c.def_ 17 (d := dd "_law_caught" sCt) rfl
  obtain ⟨d18, F18⟩ := c.def_ 18 (d := dd "_law_is_shape" sShp) rfl
  obtain ⟨d19, F19⟩ := c.def_ 19 (d := dd "_law_due" sDue) rfl
  obtain ⟨d20, F20⟩ := c.def_ 20 (d := dd "_law_odd" sOdd) rfl
  obtain ⟨d21, F21⟩ := c.def_ 21 (d := dd "_law_right" sRi) rfl
  obtain ⟨d22, F22⟩ := c.def_ 22 (d := dd "law" sLaw) rfl
  have ee := hfa.symm.trans (glo 22 "law" rfl)
  cases ee
  have b := FunD.bindsA (ps := ["_law_script"]) F22 fun _ _ _ _ _ _ us hl => match us, hl with | [_], _ => rfl
  have M0 : Pg.Mo mg := ⟨(free 23 "isinstance" rfl), (free 24 "int" rfl), (free 25 "bool" rfl), (free 26 "tuple" rfl), (free 27 "len" rfl), (free 28 "all" rfl), (free 29 "any" rfl), (free 30 "enumerate" rfl), (free 31 "range" rfl), (free 32 "sum" rfl), (free 33 "zip" rfl), (He.int_ok X G (c.fact 42 (f := .int "MOST_VARIABLES" 3) rfl)), (He.int_ok X G (c.fact 43 (f := .int "MOST_FORMS" 9) rfl))⟩
  have T1 : Bl mg := ⟨(free 27 "len" rfl), (free 34 "divmod" rfl), (free 24 "int" rfl), (free 35 "abs" rfl)⟩
  have su : mg "super" = none := (free 40 "super" rfl)
  have bas := fun r hr => Hz.base_ok (mg := mg) X G y1 r hr
  have er0 : Hz.Err (PySem.Challenge.rw_fallranks_k23_least_refused).prog K mg "InvalidForms" "index" 0 := Hz.err_ok (st := eSt0) (by kernel_rfl) (by kernel_rfl) X G su (.inr rfl) (List.all_eq_true.mp y2 ("InvalidForms", "index", 0, eSt0) (by simp [el])) (by have e2 := congrArg (fun l => l[0]?) c4; simpa [el] using e2) eTx0
  have er1 : Hz.Err (PySem.Challenge.rw_fallranks_k23_least_refused).prog K mg "InvalidForm" "given" 0 := Hz.err_ok (st := eSt1) (by kernel_rfl) (by kernel_rfl) X G su (.inl rfl) (List.all_eq_true.mp y2 ("InvalidForm", "given", 0, eSt1) (by simp [el])) (by have e2 := congrArg (fun l => l[1]?) c4; simpa [el] using e2) eTx1
  have U3 : Bl3 mg := ⟨(free 38 "max" rfl), (free 39 "min" rfl)⟩
  have US : BlS mg := ⟨(free 23 "isinstance" rfl), (free 36 "repr" rfl), (free 41 "ValueError" rfl)⟩
  have BB : Bas K mg _ _ _ := ⟨bas 0 (by decide), bas 1 (by decide), bas 2 (by decide)⟩
  have ES0 : ErT K (Hz.eC K "InvalidForms") (Hz.eW K 0) (Hz.eW K 1) (Hz.eW K 2) "index" := ⟨er0.i, er0.xf, er0.e.no, er0.bas 0 (by decide), er0.any⟩
  have EK0 : Pg.ErrK (PySem.Challenge.rw_fallranks_k23_least_refused).prog K mg "InvalidForms" (Hz.eC K "InvalidForms") (Hz.eW K 0) (Hz.eI K "InvalidForms") "index" := ⟨er0.e, er0.g, er0.i.ex, er0.ty⟩
  have ES1 : ErT K (Hz.eC K "InvalidForm") (Hz.eW K 0) (Hz.eW K 1) (Hz.eW K 2) "given" := ⟨er1.i, er1.xf, er1.e.no, er1.bas 0 (by decide), er1.any⟩
  have EK1 : Pg.ErrK (PySem.Challenge.rw_fallranks_k23_least_refused).prog K mg "InvalidForm" (Hz.eC K "InvalidForm") (Hz.eW K 0) (Hz.eI K "InvalidForm") "given" := ⟨er1.e, er1.g, er1.i.ex, er1.ty⟩
  have ER : Ers K mg (Hz.eW K 0) (Hz.eW K 1) (Hz.eW K 2) (Hz.eC K "InvalidForms") (Hz.eC K "InvalidForm") := ⟨er0.g, er1.g, ES0, ES1, of_decide_eq_true k1, of_decide_eq_true k2, of_decide_eq_true k3⟩
  refine ⟨_, fun s v => b s [v] rfl, fun base kb nb2 tB => ?_⟩
  have GL := Pg.ok_lst (P := (PySem.Challenge.rw_fallranks_k23_least_refused).prog) (w := w) (base := base) F3 M0 gg F0 (glo 0 "is_integer" rfl) F1 (glo 1 "are_integers" rfl) F5 (glo 5 "_is_any_form" rfl) F4 (glo 4 "_check_tests" rfl) F2 (glo 2 "weighed" rfl) F8 (glo 8 "lowest" rfl) F11 (glo 11 "_leveled" rfl) F13 (glo 13 "_are_neighbours" rfl) F12 (glo 12 "_cut_arrows" rfl) F10 (glo 10 "_cut" rfl) F9 (glo 9 "arrows" rfl) F6 (glo 6 "least_at" rfl) F7 (glo 7 "reach_points" rfl) EK0 EK1
  have GR := ok_ri (P := (PySem.Challenge.rw_fallranks_k23_least_refused).prog) (w := w) (base := base) F21 T1 M0 (free 36 "repr" rfl) (free 37 "str" rfl) F15 (glo 15 "_law_draw" rfl) F16 (glo 16 "_law_pick" rfl) F20 (glo 20 "_law_odd" rfl) F18 (glo 18 "_law_is_shape" rfl) F19 (glo 19 "_law_due" rfl) F17 (glo 17 "_law_caught" rfl) F3 (glo 3 "least" rfl) GL BB US ER (tB ("_law_right", none) (by simp [tf])) fun c hc => hc.of.symm
  exact ok_law F22 T1 M0 U3 F14 (glo 14 "_law_well" rfl) F21 (glo 21 "_law_right" rfl) GR
end K5
open PySem PySem.W PySem.Calls PyProof.Rows
theorem PySem.Challenge.cw_fallranks_k23_least_refused_holds : PySem.Challenge.rw_fallranks_k23_least_refused.Holds := by
  w_on; o_law
  refine HandSHeadRun.head_imp (r := OpenLaw.row PySem.Challenge.rw_fallranks_k23_least_refused) (q := view (OpenLaw.row PySem.Challenge.rw_fallranks_k23_least_refused).prog [0, 34]) (H := K5.hk) (ob := K5.ob) (M := 9000) (loose := K5.names) (d := HandSHeadRun.topDef (OpenLaw.row PySem.Challenge.rw_fallranks_k23_least_refused).prog 34) (kwd := []) K5.ob_eq
    K5.run (by kernel_rfl) (by kernel_rfl) (by kernel_rfl) (by rfl) (by first | assumption | decide +kernel) (by decide +kernel) ⟨rfl, rfl, rfl, rfl, rfl, by decide +kernel⟩ ?hw ?hc
  case hw => w_witness2
  case hc =>
    refine Gd.walk_GT (l := PySem.Challenge.rw_fallranks_k23_least_refused) (n := 63) (k := 10) (x := "_law_script") rfl (by decide) (by kernel_rfl) ⟨rfl, by decide, by decide⟩ ?F
    intro w mg fa h Y G hmg0
    obtain ⟨K, KX, c, tb⟩ := Y
    have hmg : mg ("law" : PySem.Str) = some (.ref fa) := by
      have e : (HandSHeadRun.topDef (OpenLaw.row PySem.Challenge.rw_fallranks_k23_least_refused).prog 34).name = ("law" : PySem.Str) := by kernel_rfl
      rw [← e]
      exact hmg0
    obtain ⟨fd, hb, hF⟩ := K5.facts (w := w) KX G hmg c
    refine ⟨K, fd, K5.spLaw K [((He.cT K ("_law_right", none)).2, K5.lamQ)], K5.tf.map fun p => He.cT K p, KX, ⟨fun q hq => ?_, fun q hq => ?_, fun q hq => ?_⟩, hb, fun H a ns hl hbits hH hS => ⟨a, ns, rfl, hS, hl, fun q hq => ?_, fun _ => rfl⟩, fun base kb nb tB => hF base kb nb fun p hp => tB _ (List.mem_map.mpr ⟨p, hp, rfl⟩)⟩
    · obtain ⟨p, hp, rfl⟩ := List.mem_map.mp hq
      exact (tb p hp).2.2
    · obtain ⟨p, hp, rfl⟩ := List.mem_map.mp hq
      exact (tb p hp).2.1
    · obtain ⟨p, hp, rfl⟩ := List.mem_map.mp hq
      exact PySem.W.codeHd_of_K KX (tb p hp).1
    · rw [List.mem_singleton.mp hq]
      exact LamX.TabS.nil (hH _ (List.mem_map.mpr ⟨("_law_right", none), by simp [K5.tf], rfl⟩))
