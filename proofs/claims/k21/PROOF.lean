import PyProof.Rows.All
import Wide.All
import OpenK.AllK
import Wide.FinOn
import HandS.ForMost
import HandS.ForExc
import HandS.Defaults
import KE.KExcSuper
import HandS.ExcInit
import HandS.HeadWalk
import KE.KExcIs
import HandS.ExcValue
import HandS.ExcField
import HandS.IsInst
import HandS.Walk
import HandS.Lambda
import HandS.TupAny
import KE.GoesEnum
import HandS.HotCalls
import KE.IntBitsLaws
import HandS.Property
import HandS.ExcOwn
import HandS.Head0
import HandS.Head1
import HandS.Head2
import HandS.HeadEnd
import HandS.HeadHook1
import HandS.HeadHook2
import HandS.HeadHook3
import HandS.HeadHook4
import KE.KTryMore
import HandS.EndBits
import HandS.EndTab
import HandS.Head3
import HandS.Zip
import HandS.Star
import HandS.Wide
import HandS.Gcd
import KE.DataEq
import HandS.Style
import HandS.Conv
import HandS.Text
import KE.IntTextLaws
import HandS.MakeKwOnly
import PySem.Challenge.RW_fallranks_k21_whole_least_by_taking_vari
set_option Elab.async false
set_option linter.all false
set_option maxRecDepth 100000
set_option maxHeartbeats 4000000
namespace Gd
open PySem PySem.Spec PyProof.Rows L2
/-! defs that show lists: no list is being shown around them -/
/-- a promise kept where nothing is being shown -/
structure FnG (P : Program) (w : World) (K : PySem.W.Frag) (mg : Str → Option Value) (base : Heap) (k : Nat) (f : Addr) (fd : FuncData) (ps : List Str) (sp : Sp) : Prop where
  len : ∀ vs H Q E, sp vs H Q E → vs.length = ps.length
  run : ∀ (A : Around) (outer : List Env) (s : Shared) (H : Hp) (args : Args) (us : List Value) (vs : List V) (Q : VK) (E : XK), A.guards = some [] → Room k A → Env0 P w K mg base A outer s H → BindsTo s fd args (ps.zip us) → Vals vs us → sp vs H Q E →
    codeAny (model P w) A (.call (.ref f) args) (CR CX0 outer P w H s Q E) s
theorem deeper_guards {A : Around} {env : Env} (h : A.guards = some []) : (A.deeper env).guards = some [] := by
  first
    | exact h
    | simpa [Around.deeper] using h
section
variable {P : Program} {w : World} {K : PySem.W.Frag} {mg : Str → Option Value} {base : Heap} {x qual : Str} {params : Arguments} {body : List Stmt} {scope : Scope} {dvs : List V} {kws : List (Str × V)} {f : Addr} {fd : FuncData}
theorem okG {N ps : List Str} {k : Nat} {sp : Sp} (F : FunD K x qual params body scope dvs kws f fd) (S : FnScope N ps scope) (len : ∀ vs H Q E, sp vs H Q E → vs.length = ps.length)
    (hbody : ∀ (cdv : Value) (A : Around) (outer : List Env) (s : Shared) (H : Hp) (vs : List V) (Q : VK) (E : XK), (A.deeper (envOfC qual scope s.heap.objs.size f cdv)).guards = some [] → Room k (A.deeper (envOfC qual scope s.heap.objs.size f cdv)) → sp vs H Q E →
      ∃ t, PSs (cxOf CX0 P w K mg base N qual scope f cdv A outer s H E) body t ∧ t { nx := fun _ H' => Q .non H', rt := Q } (start N vs) H) : FnG P w K mg base (k + 1) f fd ps sp := by
  obtain ⟨oc, od, dV, kV, doc, pm, an, cdv, ct, osl, rfl, lk, hcd, _, _⟩ := F.ex
  refine ⟨len, fun A outer s H args us vs Q E hgd hr e0 hb r hsp => ?_⟩
  have hlv := len _ _ _ _ hsp
  have KX : K.In s.heap := e0.mod.kin.keeps fun b o e => (e0.bs b o e).1
  have lim : s.heap.NoLimit := e0.mod.nolimit.keeps fun b o e => (e0.bs b o e).1
  have hkd : ∀ y ∈ ps.zip us, scope.names.lookup y.1 = some .local ∨ (scope.names.lookup y.1 = some .cell ∧ ((cellsFrom (s.heap.objs.size + 1) scope.names []).lookup y.1).isSome = true) := fun ⟨n, v⟩ hy => by
    rcases S.par n (List.of_mem_zip hy).1 with q | q
    · exact .inl q
    · exact .inr ⟨q, PySem.W.cellsFrom_some _ _ _ (.inl q)⟩
  refine codeAny_call_function hr.depth (KX _ _ lk) rfl S.co S.gen rfl (PySem.W.codeRec_of KX hcd) (hb _ _ _ _ ?_)
  refine wpAny_newFunctionEnv_cells S.kind hkd fun env he s1 z => ?_
  subst he
  refine ⟨lim.keeps z.toInCall.keep, codeAny_func ?_⟩
  obtain ⟨t, ht, hq⟩ := hbody cdv A outer s H vs Q E (deeper_guards hgd) (hr.deeper _) hsp
  have I : Inv (cxOf CX0 P w K mg base N qual scope f cdv A outer s H E) [] (start N vs) H s1 := inv_start S hr.hd e0 hlv r z
  refine wpAny_mono (ht.run [] s1 (start N vs) H _ I hq) (fun fl s' hs => ?_) fun e s' hs => hs
  cases fl with
  | ret u =>
    obtain ⟨v, σ', H', J, rv, q⟩ := hs
    exact ⟨v, H', J.os, J.bare, J.base, J.hok, rv, q⟩
  | next =>
    obtain ⟨σ', H', J, q⟩ := hs
    exact ⟨V.non, H', J.os, J.bare, J.base, J.hok, rfl, q⟩
  | brk =>
    obtain ⟨_, _, _, q⟩ := hs
    exact q.elim
  | cont =>
    obtain ⟨_, _, _, q⟩ := hs
    exact q.elim
end
section
variable {X : Cx} {k : Nat} {f : Addr} {fd : FuncData} {ps : List Str} {sp : Sp} {x : Str} {p pos : Pos} {e : Expr} {es : List Expr} {t : TA}
/-- such a def called -/
theorem pe_callG (F : FnG X.prog X.w X.K X.mg X.base k f fd ps sp) (hgd : X.A.guards = some []) (hr : Room k X.A) (hg : Gl X x) (hm : X.mg x = some (.ref f)) (hk : PySem.W.keepIn X.K (.ref f) = true) (hb : Binds X.K fd ps [])
    (ha : PA X (e :: es) t) (hdb : (x == ("__debug__" : Str)) = false := by decide) (he : starEach (e :: es) X.env = (false, eval e X.env) :: starEach es X.env := by rfl) (hpl : (backTo pos (starEach es X.env)).any (·.1) = false := by rfl) :
    PE X (.Call (.Name x p) (e :: es) [] pos) (tCall sp [] E0 t) := by
  refine ⟨fun pins s σ H Q I h => ?_⟩
  refine wpAny_Call_Name_kw (ld_glob I hg hm ?_ hdb)
  refine PySem.W.callWith_K (h₀ := X.base) I.ok.mod.kin hk (thn (ha.run pos pins s σ H _ I h) fun us s1 ⟨vs, H1, I1, r, q⟩ => ⟨I1.kIn, ?_⟩) he hpl
  have r2 : Vals (vs ++ []) (us ++ []) := r.append .nil
  have hl : (us ++ []).length = ps.length := by
    rw [← r2.length]
    exact F.len _ _ _ _ q
  refine wpAny_call (codeAny_mono (F.run X.A X.stack s1 H1 ⟨us, []⟩ (us ++ []) (vs ++ []) Q E0 hgd hr I1.env0 (hb s1 us I1.kIn hl) r2 q) fun r s' hq => ?_)
  cases r with
  | error er => exact hq.elim
  | ok fl =>
    cases fl with
    | ret u => exact I1.after hq
    | next => exact hq.elim
    | brk => exact hq.elim
    | cont => exact hq.elim
/-! ### repr of data -/
/-- data that stands: as Dp, or a dict of flat things at its top -/
def flatD : V → Option PyData
  | .non => some .none
  | .bl b => some (.bool b)
  | .int i => some (.int i)
  | .str z => some (.str z)
  | _ => none
def keyD : Key → PyData
  | .inl i => .int i
  | .inr z => .str z
def flatR (q : Key × V) (p : PyData × PyData) : Prop := p.1 = keyD q.1 ∧ flatD q.2 = some p.2
def Rp (K : PySem.W.Frag) (H : Hp) (v : V) (d : PyData) : Prop := Dp K H v d ∨ ∃ (a : Addr) (kvs : List (Key × V)) (ds : List (PyData × PyData)), v = .ref a ∧ H a = some (.dK kvs) ∧ Paired flatR kvs ds ∧ d = .dict ds
theorem flat_reads {h : Heap} {v : V} {u : Value} {d : PyData} (r : RelV v u) (e : flatD v = some d) : Reads h u d [] := by
  cases v with
  | non =>
    cases r
    cases e
    exact .none
  | bl b =>
    cases r
    cases e
    exact .bool b
  | int i =>
    obtain ⟨t, rfl⟩ := r
    cases e
    exact .int i t
  | str z =>
    obtain ⟨t, rfl⟩ := r
    cases e
    exact .str z t
  | byt _ => cases e
  | flt _ => cases e
  | ref _ => cases e
  | ty _ => cases e
theorem key_reads {h : Heap} {k : Key} {u : Value} (r : keyIs k u = true) : Reads h u (keyD k) [] := by
  rcases keyIs_shape r with ⟨i, t, rfl, rfl⟩ | ⟨z, t, rfl, rfl⟩
  · exact .int i t
  · exact .str z t
theorem dict_reads {P : Program} {w : World} {h : Heap} : ∀ {kvs : List (Key × V)} {vs : List (Key × Value)} {es : List DictEntry} {ds : List (PyData × PyData)}, KV kvs vs → Pairs (mixKind P w) es vs → Paired flatR kvs ds →
    ReadsAll h (es.map (·.key)) (ds.map (·.1)) [] ∧ ReadsAll h (es.map (·.val)) (ds.map (·.2)) []
  | _, _, _, _, .nil, .nil, .nil => ⟨.nil, .nil⟩
  | _, _, _, _, .cons r t, .cons a b c, .cons f g => by
    obtain ⟨h1, h2⟩ := dict_reads t c g
    obtain ⟨r1, r2⟩ := r
    obtain ⟨f1, f2⟩ := f
    refine ⟨?_, ?_⟩
    · have k1 := key_reads (h := h) a
      rw [← r1, ← f1] at k1
      exact ReadsAll.cons (bs := []) k1 h1
    · have k2 := flat_reads (h := h) r2 f2
      rw [← b] at k2
      exact ReadsAll.cons (bs := []) k2 h2
theorem dp_nodict : ∀ {K : PySem.W.Frag} {H : Hp} (d : PyData) {v : V}, Dp K H v d → d.hasDict = false
  | _, _, .none, _, _ => rfl
  | _, _, .bool _, _, _ => rfl
  | _, _, .int _, _, _ => rfl
  | _, _, .str _, _, _ => rfl
  | K, H, .list ds, _, h => by
    cases h with
    | lst hs ha =>
      simp only [PyData.hasDict]
      exact dp_nodictAll ds ha
  | K, H, .tuple ds, _, h => by
    cases h with
    | tup hs ha =>
      simp only [PyData.hasDict]
      exact dp_nodictAll ds ha
  | _, _, .dict _, _, h => by cases h
where dp_nodictAll {K : PySem.W.Frag} {H : Hp} : ∀ (ds : List PyData) {vs : List V}, DpAll K H vs ds → PyData.hasDictAll ds = false
  | [], _, _ => rfl
  | d :: ds, _, h => by
    cases h with
    | cons h1 h2 =>
      simp only [PyData.hasDictAll, dp_nodict d h1, dp_nodictAll ds h2, Bool.or_self]
/-- repr of such data -/
theorem call_repr (hgd : X.A.guards = some []) (hu : X.A.units + 64 < cLine) : CallR X (.builtin "repr") (fun xs H Q => ∃ v d, xs = [v] ∧ Rp X.K H v d ∧ PyData.showable d = true ∧ d.depth ≤ 20 ∧ d.shown.length ≤ sizeLine ∧ Q (.str d.shown) H) := by
  intro pins s σ H xs us Q I r h
  obtain ⟨v, d, rfl, hd, hs, hdp, hsz, q⟩ := h
  obtain ⟨u, rfl, ru⟩ := vals1 r
  have go : ∀ (a : Addr) (as : List Addr), u = .ref a → Reads s.heap u d as → (d.hasDict = true → sysModules ∉ as) → wpAny (model X.prog X.w) X.A (call (.builtin "repr") [u]) (EP X pins σ Q) X.xe s := by
    intro a as e rd hm
    subst e
    exact repr_of_reads' rd hs hm hgd (by omega) (fun _ _ e => e) (fun h' t tk kk => ⟨.str d.shown, H, I.kept (t' := tk) kk, ⟨t, rfl⟩, q⟩) hsz
  rcases hd with hd | ⟨a, kvs, ds, rfl, ha, hp, rfl⟩
  · have hn := dp_nodict d hd
    obtain ⟨as, rd⟩ := Dp.reads I d v u hd ru
    cases hd with
    | non =>
      cases ru
      simp only [PyData.shown] at q
      exact P.repr_of_none ⟨.str _, H, I.tok _, ⟨_, rfl⟩, q⟩
    | bl b =>
      cases ru
      simp only [PyData.shown] at q
      exact P.repr_of_bool ⟨.str _, H, I.tok _, ⟨_, rfl⟩, q⟩
    | int i =>
      obtain ⟨t, rfl⟩ := ru
      exact P.repr_of_int (by simpa [PyData.showable] using hs) ⟨.str _, H, I.tok _, ⟨_, rfl⟩, by simpa only [PyData.shown] using q⟩
    | str z =>
      obtain ⟨t, rfl⟩ := ru
      exact P.repr_of_str ⟨.str _, H, I.tok _, ⟨_, rfl⟩, by simpa only [PyData.shown] using q⟩ (by simpa only [PyData.shown] using hsz)
    | lst h1 h2 =>
      cases ru
      exact go _ as rfl rd fun z => by rw [hn] at z; cases z
    | tup h1 h2 =>
      cases ru
      exact go _ as rfl rd fun z => by rw [hn] at z; cases z
  · cases ru
    obtain ⟨_, hsy, vs, kv, o, es, ep, e1, e2, e3, _, e5, _⟩ := (show ObjOk X.prog X.w H s.heap a (.dK kvs) from I.hok a _ ha)
    obtain ⟨k1, k2⟩ := dict_reads (h := s.heap) kv e5 hp
    refine go a (a :: [] ++ []) rfl (Reads.dict e1 e2.1 e3 k1 k2) fun _ z => ?_
    simp only [List.append_nil, List.mem_singleton, List.append_eq] at z
    rw [← z] at hsy
    simp at hsy
end
end Gd
set_option Elab.async false
set_option linter.all false
set_option maxRecDepth 100000
set_option maxHeartbeats 4000000
namespace Fx
open PySem PySem.W PySem.Calls PyProof.Rows PySem.HandSPX
open Builtin Builtin.ObjectAttr
/-- a built-in base of errors, as far as errors over it want it -/
structure Root (B newId initId : String) (bmB : List Value) : Prop where
  fb : ExcBaseFacts B newId initId bmB
  kx : KxsFacts B initId
  pass : ∀ self, refuseLoop self "__setattr__" bmB = pure ()
  obj : bmB.contains (.type "object") = true
theorem rootV : Root "ValueError" "ValueError.__new__" "ValueError.__init__" [.type "ValueError", .type "Exception", .type "BaseException", .type "object"] :=
  ⟨F.excBase_ValueError, kxs_ValueError, F.store_ValueError.passes, by decide +kernel⟩
theorem rootL : Root "LookupError" "LookupError.__new__" "LookupError.__init__" [.type "LookupError", .type "Exception", .type "BaseException", .type "object"] :=
  ⟨F.excBase_LookupError, kxs_LookupError, F.store_LookupError.passes, by decide +kernel⟩
theorem rootA : Root "ArithmeticError" "ArithmeticError.__new__" "ArithmeticError.__init__" [.type "ArithmeticError", .type "Exception", .type "BaseException", .type "object"] :=
  ⟨F.excBase_ArithmeticError, kxs_ArithmeticError, F.store_ArithmeticError.passes, by decide +kernel⟩
section
variable {prog : Program} {w : World} {A : Around} {R : Result → Shared → Prop} {g0 : Heap} {gs : Array GenState} {dr : Drawn} {tk0 : Nat} {oz : OsState} {B newId initId : String} {bmB : List Value}
/-- the first attribute of a new error: its dict is made -/
theorem osa (Z : Root B newId initId bmB) {K : Frag} {name : Str} {tk : Tok} {v : Value} {x C W : Addr} {fv : Array Value} {cd : ClassData}
    (X : K.In g0) (hx : g0.get? x = some { cls := .ref C, data := .fields fv }) (hcd : clsIn K C = some cd) (hm : cd.mro = .ref C :: .ref W :: bmB) (hh : cd.hasDict = true) (ha : findIn K (.ref C) name = some none)
    (hq : ∀ g1 tk1 dx, (∀ b o, b ≠ x → g0.get? b = some o → g1.get? b = some o) → g0.objs.size ≤ dx → dx ≠ x → g1.get? x = some { cls := .ref C, dict := some dx, data := .fields fv } →
      g1.Ns1 dx (fun y => if y = name then some v else none) → R (.ok (.ret .none)) ⟨g1, gs, dr, tk1, oz⟩) :
    codeAny (model prog w) A (.call (.builtin "object.__setattr__") ⟨[.ref x, .str name tk, v], []⟩) R ⟨g0, gs, dr, tk0, oz⟩ := by
  have J : PySem.W.InstAt g0 x { cls := .ref C, data := .fields fv } C none := ⟨hx, rfl, rfl, trivial⟩
  have ST := PySem.F.store_object
  have hob : (Value.ref C :: Value.ref W :: bmB).contains (.type "object") = true := by
    rw [List.contains_cons, List.contains_cons, Z.obj, Bool.or_true, Bool.or_true]
  have hxs : x ≠ g0.objs.size := Nat.ne_of_lt (Heap.lt_size hx)
  have hmi : mroIn K C (.type "object") = some true := by
    unfold mroIn
    rw [hcd, Option.bind_some, hm, if_neg (show ¬ (List.isEmpty (Value.ref C :: Value.ref W :: bmB) = true) from Bool.false_ne_true), hob]
  have sub : Looks (model prog w) g0 (isInstance (.ref x) (.type "object")) true := J.type.andThen (looks_mroIn X hmi)
  refine codeAny_call_builtin ST.slot.plain ST.entry (@check_slot (model prog w) _ _ ⟨g0, gs, dr, tk0, oz⟩ "object.__setattr__" "object" "__setattr__" (.ref x) [.str name tk, v] [] _ ST.kind ST.split sub (ST.args (.ref x) (.str name tk) v) ?_)
  have hmr : Looks (model prog w) g0 (mroOf (.ref C)) cd.mro := (looks_clsIn X hcd).andThen .now
  have L3 : Looks (model prog w) g0 (storeTaker? none) none := .now
  have hcls : Looks (model prog w) g0 (classData C) cd := looks_clsIn X hcd
  rw [osa_eq, refuse_eq]
  refine wpAny_bind (wpAny_bind (J.type.at (wpAny_bind (hmr.at ?_))))
  rw [hm, refuseLoop_ref, refuseLoop_ref, Z.pass]
  refine wpAny_pure (wpAny_bind (J.type.at (wpAny_bind ((looks_findIn X ha).at (wpAny_bind (L3.at ?_))))))
  show wpAny _ _ (storeInOwnDict (.ref x) (.ref C) (.str name tk) name v false) _ _ _
  obtain ⟨nm, bs, mro, ns, qn, hd, sn, sb, ab, col, del⟩ := cd
  dsimp only at hh
  subst hh
  unfold storeInOwnDict ownDictForStores
  repeat (first | with_reducible refine store_in_new ?_ ?_ | with_reducible refine wpAny_loadPart_at hx ?_ | with_reducible refine hcls.at ?_ | wp_step)
  · refine ⟨_, #[], _, (Heap.get?_update_ne _ _ _ _ hxs.symm).trans (Heap.get?_push_at rfl rfl), rfl, fun e he => absurd he (by simp), ?_⟩
    intro _
    rfl
  · intro g1 tk1 hn' hs
    have hx₁ : (g0.push { cls := .type "dict", data := .dict #[] }).get? x = some { cls := .ref C, data := .fields fv } := Heap.get?_push_of_some _ hx
    refine hq g1 tk1 g0.objs.size (fun b o hb ho => ?_) (Nat.le_refl _) hxs.symm ?_ hn'
    · exact (hs.2 b (Nat.ne_of_lt (Heap.lt_size ho))).trans ((Heap.get?_update_ne _ _ _ _ hb).trans (Heap.get?_push_of_some _ ho))
    · exact (hs.2 x hxs).trans (Heap.get?_update_self _ hx₁ rfl)
end
/-- the text of an error's __init__: super().__init__(msg), and one attribute or none -/
def iS0 : Scope := { kind := .function, names := [(Str.ofString "self", .local), (Str.ofString "__class__", .free), (Str.ofString "super", .globalImplicit)], isGenerator := false, isCoroutine := false, more := [] }
def iS1 (f : Str) : Scope := { kind := .function, names := [(Str.ofString "self", .local), (f, .local), (Str.ofString "__class__", .free), (Str.ofString "super", .globalImplicit)], isGenerator := false, isCoroutine := false, more := [] }
def iA0 (p1 : Pos) : Arguments := { posonlyargs := [], args := [{ arg := "self", annotation := none, pos := p1 }], vararg := none, kwonlyargs := [], kw_defaults := [], kwarg := none, defaults := [] }
def iA1 (f : Str) (p1 p2 : Pos) : Arguments := { posonlyargs := [], args := [{ arg := "self", annotation := none, pos := p1 }, { arg := f, annotation := none, pos := p2 }], vararg := none, kwonlyargs := [], kw_defaults := [], kwarg := none, defaults := [] }
def iSup (msg : Str) (k : Nat) (q1 q2 q3 q4 q5 q6 : Pos) : Stmt := .Expr (.Call (.Attribute (.Call (.Name "super" q1) [] [] q2) "__init__" q3) [.Constant (.str msg) k q4] [] q5) q6
def iSet (f : Str) (q1 q2 q3 q4 : Pos) : Stmt := .Assign [.Attribute (.Name "self" q1) f q2] (.Name f q3) q4
/-- what the written part says of the class at C, right under the own class at W; its __init__ at fI, which closes over its class in the cell at cc -/
structure ErrT (K : Frag) (mg : Str → Option Value) (newId initId : String) (bmB : List Value) (C W fI : Addr) : Prop where
  cls : ∃ nm q N bs sn sub ab col dd k0 k1 k2 k3 k5, K.lookup C = some (excClassObj nm q C N bs (.ref W :: bmB) true sn sub ab col dd k0 k1 k2 k3 k5 newId)
  sa : findIn K (.ref C) "__setattr__" = some (some (.builtin "object.__setattr__"))
  iC : findIn K (.ref C) "__init__" = some (some (.ref fI))
  tI : typeIn K (.ref fI) = some (.type "function")
  kC : keepIn K (.ref C) = true
  al : alongIn K "__init__" (.ref W :: bmB) = some (some (.builtin initId))
  th : nsIn K cStatics "thirdparty.any" = some none
  su : mg "super" = none
/-- its __init__ with one parameter -/
def Fn1 (prog : Program) (K : Frag) (C fI : Addr) (f : Str) : Prop := ∃ (oc : Value) (od : Option Addr) (qual msg : Str) (kM : Nat) (kV doc pm : Value) (an : Option Addr) (cda cc : Addr) (ct : Value) (osl : Array (Option Value)) (p1 p2 q1 q2 q3 q4 q5 q6 r1 r2 r3 r4 : Pos) (vs : Array Value) (file : Str) (tf : Tok) (ccl cl : Value) (cdd cld : Option Addr) (ccs csl : Array (Option Value)),
    K.lookup fI = some ⟨oc, od, .func (ksFn "__init__" qual (iA1 f p1 p2) [iSup msg kM q1 q2 q3 q4 q5 q6, iSet f r1 r2 r3 r4] (iS1 f) .none kV doc pm an (.ref cda) ct cc), osl⟩ ∧ codeIn K (.ref cda) qual = true ∧
    K.lookup cda = some ⟨ccl, cdd, .fields vs, ccs⟩ ∧ vs[2]? = some (.str file tf) ∧ ((prog.main.file : Str) == file) = true ∧ K.lookup cc = some ⟨cl, cld, .cell (some (.ref C)), csl⟩ ∧ (prog.main.scope.names.lookup ("super" : Str)).isSome = false ∧ (q3.endLine == q5.line) = true
end Fx
set_option Elab.async false
set_option linter.all false
set_option maxRecDepth 100000
set_option maxHeartbeats 4000000
namespace Fx
open PySem PySem.W PySem.Calls PyProof.Rows PySem.HandSPX
open Builtin Builtin.ObjectAttr
section
variable {prog : Program} {w : World} {A : Around} {R : Result → Shared → Prop} {s : Shared} {B newId initId : String} {bmB : List Value} {K : Frag} {mg : Str → Option Value} {base : Heap} {C W fI : Addr}
/-- super().__init__(msg) within the __init__ of a new error at x -/
theorem sup_stmt (Z : Root B newId initId bmB) (T : ErrT K mg newId initId bmB C W fI) (M : L2.Mod K mg base) (kb : ∀ b o, base.get? b = some o → s.heap.get? b = some o) {qual msg : Str} {sc : Scope} {kM : Nat} {kV doc pm ct oc ccl cl : Value} {od an cdd cld : Option Addr} {cda cc L x t0 : Addr} {osl ccs csl : Array (Option Value)} {vs : Array Value} {file : Str} {tf : Tok} {ps : Arguments} {body : List Stmt} {ar : Arg} {m : Str → Option Value} {q1 q2 q3 q4 q5 q6 : Pos} {Q : Flow → Shared → Prop} {E : Value → Shared → Prop}
    (lf : K.lookup fI = some ⟨oc, od, .func (ksFn "__init__" qual ps body sc .none kV doc pm an (.ref cda) ct cc), osl⟩) (hp : (ps.posonlyargs ++ ps.args).head? = some ar) (har : ar.arg = "self")
    (lc : K.lookup cda = some ⟨ccl, cdd, .fields vs, ccs⟩) (hvs : vs[2]? = some (.str file tf)) (hfile : ((prog.main.file : Str) == file) = true) (lcell : K.lookup cc = some ⟨cl, cld, .cell (some (.ref C)), csl⟩) (htop : (prog.main.scope.names.lookup ("super" : Str)).isSome = false)
    (hks : sc.names.lookup ("super" : Str) = some .globalImplicit) (hkc : sc.names.lookup ("__class__" : Str) = some .free) (hka : sc.names.lookup ("self" : Str) = some .local) (hl1 : (q3.endLine == q5.line) = true) (hk : sc.kind = .function) (hi : interactive (ksEnv qual sc L fI (.ref cda) cc) = false)
    (hn : s.heap.Ns L m) (hm : m "self" = some (.ref x)) (hx : s.heap.get? x = some (excO C t0))
    (hq : ∀ h' tk t1, (∀ b o, b ≠ x → s.heap.get? b = some o → h'.get? b = some o) → h'.get? x = some (excO C t1) → Q .next { s with heap := h', toks := tk }) :
    _root_.PySem.wpAt (model prog w) A (.func body (ksEnv qual sc L fI (.ref cda) cc)) (exec (iSup msg kM q1 q2 q3 q4 q5 q6) (ksEnv qual sc L fI (.ref cda) cc)) Q E s := by
  obtain ⟨nm, q, N, bs, sn, sub, ab, col, dd, k0, k1, k2, k3, k5, hC⟩ := T.cls
  have X : K.In s.heap := M.kin.keeps kb
  have hcl : clsIn K C = some { name := nm, bases := bs, mro := .ref C :: .ref W :: bmB, ns := N, qualname := q, hasDict := true, slotNames := sn, subclasses := sub, abstract := ab, collection := col, hasDel := false } := by unfold clsIn; rw [hC] <;> rfl
  obtain ⟨mb, hb1, hb2⟩ := M.blt
  have J : PySem.W.InstAt s.heap x (excO C t0) C none := ⟨hx, rfl, rfl, trivial⟩
  have hCh := X _ _ hC
  have hmC : mroIn K C (.ref C) = some true := by
    unfold mroIn
    rw [hcl, Option.bind_some]
    simp
  have hmB : mroIn K C (.type B) = some true := by
    unfold mroIn
    rw [hcl, Option.bind_some, if_neg (show ¬ (List.isEmpty (Value.ref C :: Value.ref W :: bmB) = true) from Bool.false_ne_true)]
    show some ((Value.ref C :: Value.ref W :: bmB).contains (.type B)) = some true
    rw [List.contains_cons, List.contains_cons, Z.fb.hasB, Bool.or_true, Bool.or_true]
  unfold iSup
  refine ks_wpAt_Expr_any ?_ hi
  refine ks_wpAt_MethodCall (pl := L2.plainOf (.Call (.Name "super" q1) [] [] q2) (ksEnv qual sc L fI (.ref cda) cc)) ?_ ?he
  case he =>
    have e1 := fun ov => L2.mcall_line (o := .Call (.Name "super" q1) [] [] q2) (m := "__init__") (apos := q3) (pos := q5) (env := ksEnv qual sc L fI (.ref cda) cc) (ov := ov) (n := 1) (args := backTo q5 (starEach [.Constant (.str msg) kM q4] (ksEnv qual sc L fI (.ref cda) cc))) (kws := []) (by rfl) hl1
    show (attributeBase _ _ _ _ >>= fun ov => standAt q3.atName >>= fun _ => methodCall _ _ _ _ _ ov _ _ _) = _
    refine congrArg _ (funext fun ov => congrArg _ (funext fun _ => ?_))
    exact e1 ov
  refine ks_wpAt_super_base (env := ksEnv qual sc L fI (.ref cda) cc) hks hkc (by decide) rfl (X _ _ lf) rfl hp rfl (X _ _ lc) rfl hvs hfile htop ?_
  refine ks_loadName_global hk hks (loadGlobal_builtin (env := ksEnv qual sc L fI (.ref cda) cc) (M.glob.keeps kb) T.su (hb1.keeps kb) ((hb2 _ (by decide +kernel)).trans (by first | boot_by_name | rfl | kernel_rfl)) ⟨rfl, ?_⟩)
  refine wpAny_loadName_free hk hkc rfl ⟨_, X _ _ lcell, rfl⟩ ?_
  rw [har]
  refine wpAny_loadName_local hk hka hn hm ?_
  refine ks_wpAny_isType_cls hCh rfl ⟨rfl, ?_⟩
  obtain ⟨hh, g, d, t, os⟩ := s
  refine ks_wpAny_call_super hCh rfl J.at_ J.cls (fun c e => ?_) (looks_mroIn X hmC) (fun h1 e1 kk1 => ?_)
  · cases e
  have X1 : K.In h1 := X.keeps kk1
  have J1 : PySem.W.InstAt h1 x (excO C t0) C none := ⟨kk1 _ _ hx, rfl, rfl, trivial⟩
  have hI : Looks (model prog w) h1 (isInstance (.ref x) (.type B)) true := J1.type.andThen (looks_mroIn X1 hmB)
  have hxC : x ≠ C := ks_ne X J hcl
  refine kxs_getMethod Z.kx e1 (looks_opaque X1 T.th) (l₀ := .ref C :: .ref W :: bmB) ?_ rfl X1 (name := "__init__") ?_ hI hxC (by decide) ?_
  · exact fun A Q E s k q => wpAny_bind ((looks_clsIn X1 hcl) A _ E s k (wpAny_pure q))
  · have e0 : ((Value.ref C :: Value.ref W :: bmB).dropWhile (· != .ref C)).drop 1 = .ref W :: bmB := by simp [List.dropWhile_cons]
    rw [e0]
    exact T.al
  refine kxs_callWith (i := initId) (x := x) (by rfl) ?_
  show wpAny _ _ (evalArgs _ true ((false, eval (.Constant (.str msg) kM q4) (ksEnv qual sc L fI (.ref cda) cc)) :: []) []) _ _ _
  refine evalArgs_plain (spliced_cons (wpAny_Constant_str (spliced_nil ⟨Heap.get?_push_at rfl rfl, ?_⟩)))
  have up2 : ∀ b o, h1.get? b = some o → (h1.push (kxs_mw initId x)).get? b = some o := fun b o e => Heap.get?_push_of_some _ e
  refine wpAny_call (codeAny_of_tree ?_)
  show wpAny _ A.in1 (callAny (.ref _) ⟨[.str msg _], []⟩) _ _ _
  simp only [callAny]
  refine wpAny_bind (wpAny_load (Heap.get?_push_at rfl rfl) ?_)
  simp only [kxs_mw, show (Value.type "method-wrapper" == Value.type "method" || Value.type "method-wrapper" == Value.type "builtin_function_or_method" || Value.type "method-wrapper" == Value.type "method-wrapper") = true by decide, if_true]
  refine KFB.if_so (by decide) ?_
  refine wpAny_bind (check_bound_init Z.fb.toExcCallFacts (up2 _ _ (kk1 _ _ hCh)) (up2 _ _ (kk1 _ _ hx)) rfl ?_)
  refine wpAny_bind (wpAny_pure (wpAny_pure ?_))
  refine ⟨plainId_quiet Z.fb.init.plain _, codeAny_builtin Z.fb.initEntry ?_⟩
  refine exc_init_tree (cls := .ref C) (t0 := t0) (dv := none) (c2 := .none) (c3 := .none) (b4 := .bool false) (up2 _ _ (kk1 _ _ hx)) (by show 1 ≤ sizeLine; rw [sizeLine_eq]; omega) fun h2 k2' he' _ => ?_
  exact hq h2 _ _ (fun b o hb e => k2' b o hb (up2 _ _ (kk1 _ _ e))) he'
end
end Fx
set_option Elab.async false
set_option linter.all false
set_option maxRecDepth 100000
set_option maxHeartbeats 4000000
namespace Fx
open PySem PySem.W PySem.Calls PyProof.Rows PySem.HandSPX
open Builtin Builtin.ObjectAttr
/-- an error made: at x, its dict at dx with the one attribute -/
abbrev excD (C t : Addr) (dx : Option Addr) : Obj := { cls := .ref C, dict := dx, data := .fields #[.ref t, .none, .none, .none, .bool false, .none] }
theorem cellS1 (f : Str) : ∀ y ∈ (iS1 f).names, y.2 ≠ .cell := by
  intro y hy
  simp only [iS1, List.mem_cons, List.not_mem_nil, or_false] at hy
  rcases hy with rfl | rfl | rfl | rfl <;> exact fun z => nomatch z
theorem locS1 {f : Str} (hf : f = "given" ∨ f = "index") (a b : Value) : ∀ y ∈ [((Str.ofString "self" : Str), a), (f, b)], (iS1 f).names.lookup y.1 = some .local := by
  intro y hy
  simp only [List.mem_cons, List.not_mem_nil, or_false] at hy
  rcases hf with rfl | rfl <;> rcases hy with rfl | rfl <;> rfl
theorem cellS0 : ∀ y ∈ iS0.names, y.2 ≠ .cell := by
  intro y hy
  simp only [iS0, List.mem_cons, List.not_mem_nil, or_false] at hy
  rcases hy with rfl | rfl | rfl <;> exact fun z => nomatch z
theorem locS0 (a : Value) : ∀ y ∈ [((Str.ofString "self" : Str), a)], iS0.names.lookup y.1 = some .local := by
  intro y hy
  simp only [List.mem_cons, List.not_mem_nil, or_false] at hy
  subst hy
  rfl
section
variable {prog : Program} {w : World} {A : Around} {R : Result → Shared → Prop} {s : Shared} {B newId initId : String} {bmB : List Value} {K : Frag} {mg : Str → Option Value} {base : Heap} {C W fI : Addr}
theorem ldK {M : Model} {E : Value → Shared → Prop} {nm : Str} {sc : Scope} {L a cc : Addr} {cd : Value} {m : Str → Option Value} {y : Str} {pos : Pos} {v : Value} {Q : Value → Shared → Prop} (hn : s.heap.Ns L m) (hv : m y = some v) (h : Q v s)
    (hk : sc.kind = .function := by rfl) (hl : (ksEnv nm sc L a cd cc).kindOf y = some .local := by rfl) (hd : (y == ("__debug__" : Str)) = false := by decide) : wpAny M A (PySem.eval (.Name y pos) (ksEnv nm sc L a cd cc)) Q E s :=
  wpAny_Name (wpAny_loadName_local hk hl hn hv h) hd
theorem init1 (Z : Root B newId initId bmB) (T : ErrT K mg newId initId bmB C W fI) (M : L2.Mod K mg base) (kb : ∀ b o, base.get? b = some o → s.heap.get? b = some o) {f : Str} (hf : f = "given" ∨ f = "index") (noF : findIn K (.ref C) f = some none)
    (N : Fn1 prog K C fI f) {x t0 : Addr} {v : Value} {args : Args} (hb : args = ⟨[.ref x, v], []⟩ ∨ args = ⟨[.ref x], [(f, v)]⟩) (hx : s.heap.get? x = some (excO C t0)) (hnx : base.get? x = none) (hroom : A.depth < recursionLimit)
    (hq : ∀ h' tk dx t1, (∀ b o, b ≠ x → s.heap.get? b = some o → h'.get? b = some o) → h'.get? x = some (excD C t1 (some dx)) → s.heap.objs.size ≤ dx → dx ≠ x → h'.Ns1 dx (fun y => if y = f then some v else none) → R (.ok (.ret .none)) { s with heap := h', toks := tk }) :
    codeAny (model prog w) A (.call (.ref fI) args) R s := by
  obtain ⟨oc, od, qual, msg, kM, kV, doc, pm, an, cda, cc, ct, osl, p1, p2, q1, q2, q3, q4, q5, q6, r1, r2, r3, r4, vs, file, tf, ccl, cl, cdd, cld, ccs, csl, lf, lcd, lc, hvs, hfile, lcell, htop, hl1⟩ := N
  obtain ⟨nm, q, N, bs, sn, sub, ab, col, dd, k0, k1, k2, k3, k5, hC⟩ := T.cls
  have X : K.In s.heap := M.kin.keeps kb
  have hcl : clsIn K C = some { name := nm, bases := bs, mro := .ref C :: .ref W :: bmB, ns := N, qualname := q, hasDict := true, slotNames := sn, subclasses := sub, abstract := ab, collection := col, hasDel := false } := by unfold clsIn; rw [hC] <;> rfl
  rcases hf with rfl | rfl
  all_goals
    refine ks_codeAny_call_defAt (fd := ksFn "__init__" qual (iA1 _ p1 p2) [iSup msg kM q1 q2 q3 q4 q5 q6, iSet _ r1 r2 r3 r4] (iS1 _) .none kV doc pm an (.ref cda) ct cc) (body := [iSup msg kM q1 q2 q3 q4 q5 q6, iSet _ r1 r2 r3 r4]) (binds := [("self", .ref x), (_, v)]) hroom (X _ _ lf) rfl (M.nolimit.keeps kb) (codeRec_of X lcd) rfl (by rcases hb with rfl | rfl <;> exact .of_eq rfl) (cellS1 _) (locS1 (by first | exact .inl rfl | exact .inr rfl) _ _) (fun h₁ hns hk₁ => ?_) rfl rfl rfl
    refine ks_wpAt_execs_cons (sup_stmt Z T M (fun b o e => hk₁ b o (kb b o e)) lf rfl rfl lc hvs hfile lcell htop rfl rfl rfl hl1 rfl rfl hns (m := fun y => [((PySem.Str.ofString "self" : Str), Value.ref x), (_, v)].reverse.lookup y) (by rfl) (hk₁ _ _ hx) fun h₂ tk₂ t2 k₂ e₂ => ?_)
    refine wpAt_of_wpAny ?_
    have xL : s.heap.objs.size ≠ x := Nat.ne_of_gt (Heap.lt_size hx)
    have hns2 := hns
    obtain ⟨oL, es, ep, hL, rL⟩ := hns2
    have hns' : h₂.Ns s.heap.objs.size (fun y => [((PySem.Str.ofString "self" : Str), Value.ref x), (_, v)].reverse.lookup y) := ⟨oL, es, ep, k₂ _ _ xL hL, rL⟩
    have X₂ : K.In h₂ := fun b o e => k₂ b o (fun z => by
      have y := M.kin b o e
      rw [z, hnx] at y
      cases y) (hk₁ b o (X b o e))
    refine wpAny_execs_cons (plainObj_wpAny_Assign_Attribute ?_)
    refine ldK (v := v) hns' (by rfl) (ldK (v := .ref x) hns' (by rfl) ?_)
    refine set_plain X₂ (ox := excO C t2) (od := none) ⟨e₂, rfl, rfl, trivial⟩ T.sa ?_
    refine osa Z X₂ e₂ hcl rfl rfl noF fun h₃ tk₃ dx k₃ dn dne hx₃ hn₃ => ?_
    show wpAny _ _ (execs _ _) _ _ _
    refine wpAny_execs_nil (hq h₃ tk₃ dx t2 (fun b o hb e => k₃ b o hb (k₂ b o hb (hk₁ b o e))) hx₃ ?_ dne hn₃)
    exact Nat.le_trans (Nat.le_of_lt hns'.lt) dn
end
end Fx
set_option Elab.async false
set_option linter.all false
set_option maxRecDepth 100000
set_option maxHeartbeats 4000000
namespace Fx
open PySem PySem.W PySem.Calls PyProof.Rows PySem.HandSPX
open Builtin Builtin.ObjectAttr
/-! a class of errors called, with any positional and keyword arguments -/
section
variable {M : Model} {A : Around} {E : Value → Shared → Prop} {g0 : Heap} {gs : Array GenState} {dr : Drawn} {tk0 : Nat} {oz : OsState}
variable {nm qn : Str} {C N : Addr} {bs bm bmB : List Value} {hdct : Bool} {sn : List Str} {sub : List Value} {ab : Bool} {col : Option Bool} {dd : Option Addr} {k0 k1 k2 k3 k5 : Option Value} {B newId initId : String}
theorem kw_check (F : ExcBaseFacts B newId initId bmB) (hT : ∀ y : String, bm.contains (.type y) = bmB.contains (.type y)) {rest : List Value} {kw : List (Str × Value)} {Q : Unit → Shared → Prop}
    (hC : g0.get? C = some (excClassObj nm qn C N bs bm hdct sn sub ab col dd k0 k1 k2 k3 k5 newId)) (hq : Q () ⟨g0, gs, dr, tk0, oz⟩) : wpAny M A (checkBuiltinCall newId ⟨.ref C :: rest, kw⟩) Q E ⟨g0, gs, dr, tk0, oz⟩ := by
  have hB : (Value.ref C :: bm).contains (.type B) = true := by
    rw [List.contains_cons, hT, F.hasB, Bool.or_true]
  have hns := F.noStar
  simp only [checkBuiltinCall, F.newKind, F.newSplit, F.newRow]
  repeat (first | refine wpAny_loadPart_at hC ?_ | (refine wpAny_isSubtype_exc hC ?_; rw [hB]) | refine wpAny_staticBase_exc hC ?_ | refine wpAny_madeBy_exc hC ?_ | simp only [bne_self_eq_false, Bool.false_eq_true, if_false] | wp_step)
  first
    | exact hq
    | skip
end
section
variable {prog : Program} {w : World} {A : Around} {E : Value → Shared → Prop} {R : Result → Shared → Prop} {g0 : Heap} {gs : Array GenState} {dr : Drawn} {tk0 : Nat} {oz : OsState}
variable {nm qn : Str} {C N : Addr} {bs bm bmB : List Value} {hdct : Bool} {sn : List Str} {sub : List Value} {ab : Bool} {col : Option Bool} {dd : Option Addr} {k0 k1 k2 k3 k5 : Option Value} {B newId initId : String}
theorem kw_new (F : ExcBaseFacts B newId initId bmB) (hT : ∀ y : String, bm.contains (.type y) = bmB.contains (.type y)) {rest : List Value} {kw : List (Str × Value)}
    (hC : g0.get? C = some (excClassObj nm qn C N bs bm hdct sn sub ab col dd k0 k1 k2 k3 k5 newId))
    (hq : R (.ok (.ret (.ref (g0.objs.size + 1)))) ⟨(g0.push (kdv_tup rest)).push (excO C g0.objs.size), gs, dr, tk0, oz⟩) (hz : rest.length ≤ sizeLine) :
    codeAny (model prog w) A (.builtin newId ⟨.ref C :: rest, kw⟩) R ⟨g0, gs, dr, tk0, oz⟩ := by
  have he := F.ends
  have hB : (Value.ref C :: bm).contains (.type B) = true := by
    rw [List.contains_cons, hT, F.hasB, Bool.or_true]
  have hA : (Value.ref C :: bm).contains (.type "AttributeError") = false := by
    rw [List.contains_cons, hT, F.noAttr]
    rfl
  have hN : (Value.ref C :: bm).contains (.type "NameError") = false := by
    rw [List.contains_cons, hT, F.noName]
    rfl
  refine codeAny_builtinAt F.entry ?_
  unfold Builtin.«BaseException.__new__»
  refine _root_.PySem.wpAt_bind ?_
  show _root_.PySem.wpAt _ _ _ (stack >>= _) _ _ _
  refine _root_.PySem.wpAt_bind (_root_.PySem.wpAt_stack fun p below => _root_.PySem.wpAt_of_wpAny ?_)
  wp_walk
  refine _root_.PySem.wpAt_of_wpAny ?_
  rw [F.owner]
  repeat (first | with_reducible refine wpAny_madeHere_exc F.canon hC ?_ | with_reducible refine wpAny_loadPart_at hC ?_ | (with_reducible refine wpAny_isSubtype_exc hC ?_; first | rw [hB] | rw [hA] | rw [hN]) | wp_step)
  show R _ _
  rw [Heap.size_push]
  exact hq
theorem kw_type (F : ExcBaseFacts B newId initId bmB) (hT : ∀ y : String, bm.contains (.type y) = bmB.contains (.type y)) {rest : List Value} {kw : List (Str × Value)} {fI : Addr} {Q : Fin → Shared → Prop}
    (hC : g0.get? C = some (excClassObj nm qn C N bs bm hdct sn sub ab col dd k0 k1 k2 k3 k5 newId))
    (hi : Looks (model prog w) g0 (typeLookup (.ref C) "__init__") (some (.ref fI))) (hb : ∀ self, Looks (model prog w) g0 (bindSpecial (.ref fI) self) (.ref fI, [self])) (hz : rest.length ≤ sizeLine)
    (hq : codeAny (model prog w) A (.call (.ref fI) ⟨.ref (g0.objs.size + 1) :: rest, kw⟩)
      (fun r s' => match r with | .ok (.ret v) => v = .none ∧ Q (.done (.ret (.ref (g0.objs.size + 1)))) s' | .ok _ => False | .error e => E e s')
      ⟨(g0.push (kdv_tup rest)).push (excO C g0.objs.size), gs, dr, tk0, oz⟩) :
    wpAny (model prog w) A (Builtin.«type.__call__» ⟨.ref C :: rest, kw⟩) Q E ⟨g0, gs, dr, tk0, oz⟩ := by
  repeat (first | with_reducible refine wpAny_loadPart_at hC ?_ | with_reducible refine wpAny_madeBy_exc hC ?_ | wp_step)
  refine codeAny_call_builtin_code (Code.quiet_builtin _ F.quiet) (kw_check F hT hC ?_)
  refine kw_new F hT hC ?_ hz
  show wpAny _ _ _ _ _ _
  have k : ∀ b o, g0.get? b = some o → ((g0.push (kdv_tup rest)).push (excO C g0.objs.size)).get? b = some o := fun b o e => Heap.get?_push_of_some _ (Heap.get?_push_of_some _ e)
  have hC₁ := k _ _ hC
  have hget : ((g0.push (kdv_tup rest)).push (excO C g0.objs.size)).get? (g0.objs.size + 1) = some (excO C g0.objs.size) := by heap_get
  have hCC : (Value.ref C :: bm).contains (.ref C) = true := by simp
  have i1 := hi.keeps k
  have b1 := (hb (.ref (g0.objs.size + 1))).keeps k
  unfold isInstance
  repeat (first | with_reducible refine wpAny_loadPart_at hget ?_ | (with_reducible refine wpAny_isSubtype_exc hC₁ ?_; rw [hCC]) | wp_step)
  show wpAny _ _ (typeLookup (.ref C) _) _ _ _
  refine i1.at ?_
  refine wpAny_holding (wpAny_bind (b1.at ?_))
  refine wpAny_bind (wpAny_call (codeAny_mono hq fun r s' z => ?_))
  rcases r with e | (v | _ | _ | _) <;> first | exact z | exact z.elim | skip
  obtain ⟨rfl, z⟩ := z
  first
    | exact wpAny_pure (wpAny_pure z)
    | (wp_walk; exact z)
theorem kw_call (F : ExcBaseFacts B newId initId bmB) (hT : ∀ y : String, bm.contains (.type y) = bmB.contains (.type y)) {rest : List Value} {kw : List (Str × Value)} {fI : Addr}
    (hC : g0.get? C = some (excClassObj nm qn C N bs bm hdct sn sub ab col dd k0 k1 k2 k3 k5 newId))
    (hi : Looks (model prog w) g0 (typeLookup (.ref C) "__init__") (some (.ref fI))) (hb : ∀ self, Looks (model prog w) g0 (bindSpecial (.ref fI) self) (.ref fI, [self])) (hz : rest.length ≤ sizeLine)
    (hq : codeAny (model prog w) (A.under (.builtin "type.__call__" ⟨.ref C :: rest, kw⟩)) (.call (.ref fI) ⟨.ref (g0.objs.size + 1) :: rest, kw⟩) (InitBack (g0.objs.size + 1) R)
      ⟨(g0.push (kdv_tup rest)).push (excO C g0.objs.size), gs, dr, tk0, oz⟩) :
    codeAny (model prog w) A (.call (.ref C) ⟨rest, kw⟩) R ⟨g0, gs, dr, tk0, oz⟩ := by
  have f1 := tc_lookup
  have f2 := tc_bind (.ref C)
  have hTy : (⟨g0, gs, dr, tk0, oz⟩ : Shared).TypeIs (.ref C) "type" := ⟨_, hC, rfl⟩
  refine codeAny_of_tree ?_
  show wpAny _ _ (callAny (.ref C) _) _ _ _
  repeat (any_goals (first | assumption | with_reducible refine wpAny_loadPart_at hC ?_ | wp_step))
  refine ⟨rfl, ?_⟩
  refine codeAny_call_builtin_at (Code.quiet_builtin _ (by decide +kernel)) entry_typeCall (wpAny_check_type_call_sub hC (kw_type F hT hC hi hb hz ?_))
  refine codeAny_mono hq fun r s' z => ?_
  rcases r with e | (v | _ | _ | _) <;> exact z
end
end Fx
set_option Elab.async false
set_option linter.all false
set_option maxRecDepth 100000
set_option maxHeartbeats 4000000
namespace Fx
open PySem L2
open PySem.W (Frag)
/-- what the walk asks of a class of errors with one attribute f -/
structure Err1 (prog : Program) (K : Frag) (mg : Str → Option Value) (newId initId : String) (bmB : List Value) (C W fI : Addr) (f : Str) : Prop where
  t : ErrT K mg newId initId bmB C W fI
  n : Fn1 prog K C fI f
  no : PySem.W.findIn K (.ref C) f = some none
  ff : f = "given" ∨ f = "index"
section
variable {X : Cx} {pins : List (Addr × Obj)} {σ : St} {H : Hp} {s : Shared} {B newId initId : String} {bmB : List Value} {C W fI : Addr} {f : Str} {k : Nat}
theorem hT_of (Z : Root B newId initId bmB) (W : Addr) : ∀ y : String, (Value.ref W :: bmB).contains (.type y) = bmB.contains (.type y) := fun y => by
  rw [List.contains_cons]
  rfl
/-- what stands new: the error at a, its dict at d -/
theorem err_laid (I : Inv X pins σ H s) {h' : Heap} {a d t1 : Addr} {mA : Str → Option Value} {fs : List (Str × V)} {tk : Nat} (k : ∀ b o, s.heap.get? b = some o → h'.get? b = some o) (ha : s.heap.objs.size ≤ a) (hd : s.heap.objs.size ≤ d) (ne : d ≠ a)
    (ea : h'.get? a = some (excD C t1 (some d))) (ed : h'.Ns1 d mA) (rel : ∀ g, RelO (fs.lookup g) (mA g)) :
    H a = none ∧ H d = none ∧ Inv X pins σ (upd (upd H d (exd d fs)) a (exo a C (some d))) { s with heap := h', toks := tk } := by
  have na : H a = none := I.hok.fresh ha
  have nd : H d = none := I.hok.fresh hd
  have la : ∀ {b : Addr} {o : Obj}, s.heap.get? b = some o → b ≠ a := fun {b o} q => Nat.ne_of_lt (Nat.lt_of_lt_of_le (Heap.lt_size q) ha)
  have ld : ∀ {b : Addr} {o : Obj}, s.heap.get? b = some o → b ≠ d := fun {b o} q => Nat.ne_of_lt (Nat.lt_of_lt_of_le (Heap.lt_size q) hd)
  have up : ∀ {b : Addr}, b ≠ a → b ≠ d → (upd (upd H d (exd d fs)) a (exo a C (some d))) b = H b := fun {b} h1 h2 => by
    rw [upd_ne h1, upd_ne h2]
  have us : ∀ {b : Addr} {o : HO}, H b = some o → (upd (upd H d (exd d fs)) a (exo a C (some d))) b = some o := fun {b o} q => by
    rw [up (ne_of_none q na) (ne_of_none q nd)]
    exact q
  refine ⟨na, nd, I.un (t' := tk) ⟨fun b o q _ _ _ => k b o q, fun b o q _ _ _ => ⟨o.slots, k b o q⟩, fun b o q n _ => ?_, fun b o q _ => ⟨o, k b o q⟩, fun b xs q => us q, fun b o v q => us q, fun b ps q => ⟨#[], by rw [us q]; simp⟩⟩ fun b o q => ?_⟩
  · rw [up (la q) (ld q)]
    exact n
  · by_cases h1 : b = a
    · subst h1
      rw [upd_same] at q
      cases q
      exact exo_ok ea
    · rw [upd_ne h1] at q
      by_cases h2 : b = d
      · subst h2
        rw [upd_same] at q
        cases q
        exact exd_ok ed rel
      · rw [upd_ne h2] at q
        exact (I.hok b o q).stay (fun c v _ z => k c v z) (fun c z => us z) fun c xs z => us z
theorem run_err (Z : Root B newId initId bmB) (T : Err1 X.prog X.K X.mg newId initId bmB C W fI f) (hr : Room (k + 1) X.A) (I : Inv X pins σ H s) {y : V} {u : Value} (ry : RelV y u) {pos : List Value} {kw : List (Str × Value)}
    (ha : (pos = [u] ∧ kw = []) ∨ (pos = [] ∧ kw = [(f, u)])) {Q : VK} (h : ∀ a d, H a = none → H d = none → d ≠ a → Q (.ref a) (upd (upd H d (exd d [(f, y)])) a (exo a C (some d)))) :
    wpAny (model X.prog X.w) X.A (call (.ref C) pos kw) (EP X pins σ Q) X.xe s := by
  obtain ⟨nm, q, N, bs, sn, sub, ab, col, dd, k0, k1, k2, k3, k5, hC⟩ := T.t.cls
  obtain ⟨hp, g, dr, tk, os⟩ := s
  have kk : ∀ b o, hp.get? b = some o → ((hp.push (PySem.W.kdv_tup pos)).push (PySem.HandSPX.excO C hp.objs.size)).get? b = some o := fun b o e => Heap.get?_push_of_some _ (Heap.get?_push_of_some _ e)
  have hget : ((hp.push (PySem.W.kdv_tup pos)).push (PySem.HandSPX.excO C hp.objs.size)).get? (hp.objs.size + 1) = some (PySem.HandSPX.excO C hp.objs.size) := by heap_get
  have hz : pos.length ≤ sizeLine := by
    rw [sizeLine_eq]
    rcases ha with ⟨rfl, _⟩ | ⟨rfl, _⟩
    · show 1 ≤ 16777216
      decide
    · show 0 ≤ 16777216
      decide
  have nb : X.base.get? (hp.objs.size + 1) = none := by
    cases e : X.base.get? (hp.objs.size + 1) with
    | none => rfl
    | some o =>
      have z : hp.get? (hp.objs.size + 1) = some o := I.bk _ _ e
      exact absurd (Nat.lt_of_succ_lt (Heap.lt_size z)) (Nat.lt_irrefl _)
  have args : (Args.mk (Value.ref (hp.objs.size + 1) :: pos) kw) = ⟨[.ref (hp.objs.size + 1), u], []⟩ ∨ (Args.mk (Value.ref (hp.objs.size + 1) :: pos) kw) = ⟨[.ref (hp.objs.size + 1)], [(f, u)]⟩ := by
    rcases ha with ⟨rfl, rfl⟩ | ⟨rfl, rfl⟩
    · exact .inl rfl
    · exact .inr rfl
  refine wpAny_call (kw_call Z.fb (hT_of Z W) (I.kIn _ _ hC) (PySem.W.looks_findIn I.kIn T.t.iC) (fun self => PySem.W.bind_fn I.kIn self T.t.tI) hz ?_)
  refine init1 (s := ⟨(hp.push (PySem.W.kdv_tup pos)).push (PySem.HandSPX.excO C hp.objs.size), g, dr, tk, os⟩) Z T.t I.ok.mod (fun b o e => kk b o (I.bk b o e)) T.ff T.no T.n args hget nb ?_ fun h' tk' dx t1 k1 e1 dn dne hn => ?_
  · rw [make_depth]
    have := hr.dp
    omega
  · have old : ∀ b o, hp.get? b = some o → h'.get? b = some o := fun b o e => k1 b o (Nat.ne_of_lt (Nat.lt_succ_of_lt (Heap.lt_size e))) (kk b o e)
    have sz : hp.objs.size ≤ dx := by
      have z : ((hp.push (PySem.W.kdv_tup pos)).push (PySem.HandSPX.excO C hp.objs.size)).objs.size ≤ dx := dn
      rw [Heap.size_push, Heap.size_push] at z
      omega
    obtain ⟨na, nd, J⟩ := err_laid (fs := [(f, y)]) (tk := tk') I old (Nat.le_succ _) sz dne e1 hn (relO_put (fs := []) (mA := fun _ => none) ry fun g => True.intro)
    exact ⟨rfl, .ref (hp.objs.size + 1), _, J, rfl, h _ _ na nd dne⟩
end
end Fx
set_option Elab.async false
set_option linter.all false
set_option maxRecDepth 100000
set_option maxHeartbeats 4000000
namespace Fx
open PySem L2
open PySem.W (Frag)
section
variable {X : Cx} {pins : List (Addr × Obj)} {σ : St} {H : Hp} {s : Shared} {B newId initId : String} {bmB : List Value} {C W fI : Addr} {f : Str} {k : Nat} {x : Str} {p pos kpos : Pos} {e : Expr} {te : TE}
/-- C(e), C(f=e): a new error at a, its dict at d -/
def tErr (C : Addr) (f : Str) (te : TE) : TE := fun σ H Q => te σ H fun y H1 => ∀ a d, H1 a = none → H1 d = none → d ≠ a → Q (.ref a) (upd (upd H1 d (exd d [(f, y)])) a (exo a C (some d)))
theorem pe_err (Z : Root B newId initId bmB) (T : Err1 X.prog X.K X.mg newId initId bmB C W fI f) (hr : Room (k + 1) X.A) (gC : X.mg x = some (.ref C)) (hg : Gl X x) (he : PE X e te) (hs : starEach [e] X.env = (false, eval e X.env) :: starEach [] X.env := by rfl)
    (hdb : (x == ("__debug__" : Str)) = false := by decide) : PE X (.Call (.Name x p) [e] [] pos) (tErr C f te) := by
  refine ⟨fun pins s σ H Q I h => ?_⟩
  refine wpAny_Call_Name_kw (ld_glob I hg gC ?_ hdb)
  refine PySem.W.callWith_K (h₀ := X.base) I.ok.mod.kin T.t.kC ?_ hs (by rfl)
  rw [hs]
  show wpAny _ _ (spliced ((false, eval e X.env) :: backTo pos (starEach [] X.env))) _ _ s
  refine Calls.spliced_cons (thn (he.run pins s σ H _ I h) fun u s1 ⟨y, H1, I1, r1, q1⟩ => ?_)
  refine Calls.spliced_nil ⟨I1.kIn, ?_⟩
  exact run_err Z T hr I1 r1 (.inl ⟨rfl, rfl⟩) q1
theorem pe_errK (Z : Root B newId initId bmB) (T : Err1 X.prog X.K X.mg newId initId bmB C W fI f) (hr : Room (k + 1) X.A) (gC : X.mg x = some (.ref C)) (hg : Gl X x) (he : PE X e te)
    (hdb : (x == ("__debug__" : Str)) = false := by decide) : PE X (.Call (.Name x p) [] [⟨some f, e, kpos⟩] pos) (tErr C f te) := by
  refine ⟨fun pins s σ H Q I h => ?_⟩
  refine wpAny_Call_Name_kw (ld_glob I hg gC ?_ hdb)
  refine PySem.W.callWith_KW0 (h₀ := X.base) I.ok.mod.kin T.t.kC (by rfl) ?_ (by rfl)
  have hk : PK X [⟨some f, e, kpos⟩] (tCons te tNil) := pk_cons he pk_nil
  refine thn (hk.run pos pins s σ H (fun vs H1 => match vs with | [y] => ∀ a d, H1 a = none → H1 d = none → d ≠ a → Q (.ref a) (upd (upd H1 d (exd d [(f, y)])) a (exo a C (some d))) | _ => False) I h) fun us s1 ⟨vs, H1, I1, r1, q1⟩ => ⟨I1.kIn, ?_⟩
  cases r1 with
  | nil => exact q1.elim
  | cons ry rn =>
    cases rn with
    | nil => exact run_err Z T hr I1 ry (.inr ⟨rfl, rfl⟩) q1
    | cons r2 rn => exact q1.elim
end
/-- an error stands at a -/
def IsE (H : Hp) (a C : Addr) : Prop := (∃ dd fs, H a = some (exo a C (some dd)) ∧ H dd = some (exd dd fs)) ∨ H a = some (exo a C none) ∨ H a = some (ExO (.ref C) a)
/-- what the class says, so that isinstance asks its errors rightly -/
structure IsC (K : Frag) (C : Addr) : Prop where
  cl : (PySem.W.clsIn K C).isSome = true
  ga : PySem.W.findIn K (.ref C) "__getattribute__" = some (some (.builtin "BaseException.__getattribute__"))
  gg : PySem.W.findIn K (.ref C) "__getattr__" = some none
  ex : PySem.W.subIn K (.ref C) (.type "BaseException") = some true
  ha : PySem.W.findIn K (.ref C) "__class__" = some (some (.builtin "object.__class__"))
  hn : PySem.W.specialIn K (.builtin "object.__class__") "__get__" = some (some (.builtin "getset_descriptor.__get__"))
  ht : PySem.W.takesIn K (.builtin "object.__class__") = some true
  hm : PySem.W.mroIn K C (.type "object") = some true
section
variable {X : Cx} {pins : List (Addr × Obj)} {σ : St} {H : Hp} {s : Shared} {a C : Addr}
theorem isE_inst (I : Inv X pins σ H s) (h : IsE H a C) : ∃ ox od, PySem.W.InstAt s.heap a ox C od := by
  rcases h with ⟨dd, fs, h1, h2⟩ | h1 | h1
  · obtain ⟨t1, e1⟩ := exo_at I.hok h1
    obtain ⟨mA, ⟨od, es, ep, e2, _⟩, _⟩ := exd_at I.hok h2
    exact ⟨_, some od, e1, rfl, rfl, e2⟩
  · obtain ⟨t1, e1⟩ := exo_at I.hok h1
    exact ⟨_, none, e1, rfl, rfl, trivial⟩
  · have z : ObjOk X.prog X.w H s.heap a (ExO (.ref C) a) := I.hok a _ h1
    obtain ⟨⟨oe, vs, ho, hz, hd, _⟩, _, _⟩ := z
    obtain ⟨oc, od, oda, osl⟩ := oe
    obtain ⟨z1, z2⟩ := hz
    dsimp only at z1 z2 hd
    subst z1 z2 hd
    exact ⟨_, none, ho, rfl, rfl, trivial⟩
/-- isinstance(e, c), e an error -/
def rIsE (K : Frag) : List V → Hp → VK → Prop := fun xs H Q => ∃ (a C : Addr) (c : V) (u : Value) (b : Bool), xs = [.ref a, c] ∧ ClsV c u ∧ IsE H a C ∧ IsC K C ∧ PySem.W.kitOne K (.ref C) u = some b ∧ Q (.bl b) H
theorem call_isE {X : Cx} : CallR X (.builtin "isinstance") (rIsE X.K) := by
  intro pins s σ H xs us Q I r h
  obtain ⟨a, C, c, u, b, rfl, kc, ie, T, e, q⟩ := h
  obtain ⟨u1, u2, rfl, r1, r2⟩ := vals2 r
  have e2 := kc.eq r2
  subst e2
  cases (show u1 = Value.ref a from r1)
  obtain ⟨ox, od, J⟩ := isE_inst I ie
  exact PySem.W.kia_one (PySem.W.kitx_exc (gt := none) T.cl T.ga T.gg T.ex T.ha T.hn T.ht T.hm) I.kIn J e (fun z => nomatch z) fun tk => ⟨.bl b, H, I.tok tk, rfl, q⟩
/-- e.f, e an error with a dict -/
def tEf (K : Frag) (f : Str) (te : TE) : TE := fun σ H Q => te σ H fun x H1 => ∃ (a C dd : Addr) (fs : List (Str × V)) (v : V), x = .ref a ∧ H1 a = some (exo a C (some dd)) ∧ H1 dd = some (exd dd fs) ∧ fs.lookup f = some v ∧ XfC K C ∧ PySem.W.findIn K (.ref C) f = some none ∧ Q v H1
theorem pe_ef {X : Cx} {e : Expr} {te : TE} {pos : Pos} {n : Str} (he : PE X e te) (hb : attributeBase e n X.env (eval e X.env) = eval e X.env := by rfl) : PE X (.Attribute e n pos) (tEf X.K n te) := by
  refine ⟨fun pins s σ H Q I h => ?_⟩
  refine attr_of hb (thn (he.run pins s σ H _ I h) fun u s1 hh => ?_)
  obtain ⟨x, H1, I1, rx, a, C, dd, fs, v, ex, ea, ed, l, T, hno, q⟩ := hh
  subst ex
  obtain rfl : u = Value.ref a := rx
  obtain ⟨t1, e1⟩ := exo_at I1.hok ea
  obtain ⟨mA, hns, hr⟩ := exd_at I1.hok ed
  obtain ⟨od, ho, hl⟩ := lookIn_ns hns
  obtain ⟨u, hu, ru⟩ := RelO.some_of (v := v) (o := mA n) (by rw [← l]; exact hr n)
  have J : PySem.W.InstAt s1.heap a _ C (some od) := ⟨e1, rfl, rfl, ho⟩
  exact HandSPX.exc_get I1.kIn J T.ga T.gg T.exC (PySem.W.findObj_own T.hdC hno rfl (by rw [hl, hu])) (handed_of ru) ⟨v, H1, I1.tok _, ru, q⟩
end
end Fx
set_option Elab.async false
set_option linter.all false
set_option maxRecDepth 100000
set_option maxHeartbeats 4000000
namespace Fx
open PySem PySem.W PySem.Calls PyProof.Rows PySem.HandSPX
open Builtin Builtin.ObjectAttr
/-- an __init__ without parameters -/
def Fn0 (prog : Program) (K : Frag) (C fI : Addr) : Prop := ∃ (oc : Value) (od : Option Addr) (qual msg : Str) (kM : Nat) (kV doc pm : Value) (an : Option Addr) (cda cc : Addr) (ct : Value) (osl : Array (Option Value)) (p1 q1 q2 q3 q4 q5 q6 : Pos) (vs : Array Value) (file : Str) (tf : Tok) (ccl cl : Value) (cdd cld : Option Addr) (ccs csl : Array (Option Value)),
    K.lookup fI = some ⟨oc, od, .func (ksFn "__init__" qual (iA0 p1) [iSup msg kM q1 q2 q3 q4 q5 q6] iS0 .none kV doc pm an (.ref cda) ct cc), osl⟩ ∧ codeIn K (.ref cda) qual = true ∧
    K.lookup cda = some ⟨ccl, cdd, .fields vs, ccs⟩ ∧ vs[2]? = some (.str file tf) ∧ ((prog.main.file : Str) == file) = true ∧ K.lookup cc = some ⟨cl, cld, .cell (some (.ref C)), csl⟩ ∧ (prog.main.scope.names.lookup ("super" : Str)).isSome = false ∧ (q3.endLine == q5.line) = true
section
variable {prog : Program} {w : World} {A : Around} {R : Result → Shared → Prop} {s : Shared} {B newId initId : String} {bmB : List Value} {K : Frag} {mg : Str → Option Value} {base : Heap} {C W fI : Addr}
theorem init0 (Z : Root B newId initId bmB) (T : ErrT K mg newId initId bmB C W fI) (M : L2.Mod K mg base) (kb : ∀ b o, base.get? b = some o → s.heap.get? b = some o)
    (N : Fn0 prog K C fI) {x t0 : Addr} (hx : s.heap.get? x = some (excO C t0)) (hroom : A.depth < recursionLimit)
    (hq : ∀ h' tk t1, (∀ b o, b ≠ x → s.heap.get? b = some o → h'.get? b = some o) → h'.get? x = some (excD C t1 none) → R (.ok (.ret .none)) { s with heap := h', toks := tk }) :
    codeAny (model prog w) A (.call (.ref fI) ⟨[.ref x], []⟩) R s := by
  obtain ⟨oc, od, qual, msg, kM, kV, doc, pm, an, cda, cc, ct, osl, p1, q1, q2, q3, q4, q5, q6, vs, file, tf, ccl, cl, cdd, cld, ccs, csl, lf, lcd, lc, hvs, hfile, lcell, htop, hl1⟩ := N
  have X : K.In s.heap := M.kin.keeps kb
  refine ks_codeAny_call_defAt (fd := ksFn "__init__" qual (iA0 p1) [iSup msg kM q1 q2 q3 q4 q5 q6] iS0 .none kV doc pm an (.ref cda) ct cc) (body := [iSup msg kM q1 q2 q3 q4 q5 q6]) (binds := [("self", .ref x)]) hroom (X _ _ lf) rfl (M.nolimit.keeps kb) (codeRec_of X lcd) rfl (.of_eq rfl) cellS0 (locS0 _) (fun h₁ hns hk₁ => ?_) rfl rfl rfl
  refine ks_wpAt_execs_cons (sup_stmt Z T M (fun b o e => hk₁ b o (kb b o e)) lf rfl rfl lc hvs hfile lcell htop rfl rfl rfl hl1 rfl rfl hns (m := fun y => [((PySem.Str.ofString "self" : Str), Value.ref x)].reverse.lookup y) (by rfl) (hk₁ _ _ hx) fun h₂ tk₂ t2 k₂ e₂ => ?_)
  refine _root_.PySem.wpAt_of_wpAny ?_
  exact wpAny_execs_nil (hq h₂ tk₂ t2 (fun b o hb e => k₂ b o hb (hk₁ b o e)) e₂)
end
end Fx
namespace Fx
open PySem L2
open PySem.W (Frag)
section
variable {X : Cx} {pins : List (Addr × Obj)} {σ : St} {H : Hp} {s : Shared} {B newId initId : String} {bmB : List Value} {C W fI : Addr} {k : Nat} {x : Str} {p pos : Pos}
/-- C(), C's __init__ without parameters -/
theorem pe_err0 (Z : Root B newId initId bmB) (T : ErrT X.K X.mg newId initId bmB C W fI) (N : Fn0 X.prog X.K C fI) (hr : Room (k + 1) X.A) (gC : X.mg x = some (.ref C)) (hg : Gl X x)
    (hdb : (x == ("__debug__" : Str)) = false := by decide) : PE X (.Call (.Name x p) [] [] pos) (fun σ H Q => ∀ a, H a = none → Q (.ref a) (upd H a (exo a C none))) := by
  refine ⟨fun pins s σ H Q I h => ?_⟩
  refine wpAny_Call_Name_kw (ld_glob I hg gC ?_ hdb)
  refine PySem.W.callWith_K0 I.kIn T.kC ?_
  obtain ⟨nm, q, N', bs, sn, sub, ab, col, dd, k0, k1, k2, k3, k5, hC⟩ := T.cls
  obtain ⟨hp, g, dr, tk, os⟩ := s
  have kk : ∀ b o, hp.get? b = some o → ((hp.push (PySem.W.kdv_tup [])).push (PySem.HandSPX.excO C hp.objs.size)).get? b = some o := fun b o e => Heap.get?_push_of_some _ (Heap.get?_push_of_some _ e)
  have hget : ((hp.push (PySem.W.kdv_tup [])).push (PySem.HandSPX.excO C hp.objs.size)).get? (hp.objs.size + 1) = some (PySem.HandSPX.excO C hp.objs.size) := by heap_get
  show wpAny _ _ (call (.ref C) []) _ _ _
  refine wpAny_call (kw_call Z.fb (hT_of Z W) (I.kIn _ _ hC) (PySem.W.looks_findIn I.kIn T.iC) (fun self => PySem.W.bind_fn I.kIn self T.tI) (by show 0 ≤ sizeLine; exact Nat.zero_le _) ?_)
  refine init0 (s := ⟨(hp.push (PySem.W.kdv_tup [])).push (PySem.HandSPX.excO C hp.objs.size), g, dr, tk, os⟩) Z T I.ok.mod (fun b o e => kk b o (I.bk b o e)) N hget ?_ fun h' tk' t1 k1 e1 => ?_
  · rw [make_depth]
    have := hr.dp
    omega
  · have old : ∀ b o, hp.get? b = some o → h'.get? b = some o := fun b o e => k1 b o (Nat.ne_of_lt (Nat.lt_succ_of_lt (Heap.lt_size e))) (kk b o e)
    have na : H (hp.objs.size + 1) = none := I.hok.fresh (Nat.le_succ _)
    exact ⟨rfl, .ref (hp.objs.size + 1), _, I.laid (t' := tk') (a := hp.objs.size + 1) (o := exo (hp.objs.size + 1) C none) old (Nat.le_succ _) (exo_ok e1), rfl, h _ na⟩
/-- C(), C without an __init__ of its own -/
theorem pe_exc0 {bm0 : List Value} (F : ExcBaseFacts B newId initId bm0) (q : PySem.W.excIn X.K C bm0 newId = true) (gC : X.mg x = some (.ref C)) (kC : PySem.W.keepIn X.K (.ref C) = true) (hg : Gl X x)
    (hdb : (x == ("__debug__" : Str)) = false := by decide) : PE X (.Call (.Name x p) [] [] pos) (fun σ H Q => ∀ a, H a = none → Q (.ref a) (upd H a (ExO (.ref C) a))) := by
  refine ⟨fun pins s σ H Q I h => ?_⟩
  refine wpAny_Call_Name_kw (ld_glob I hg gC ?_ hdb)
  refine PySem.W.callWith_K0 I.kIn kC ?_
  show wpAny _ _ (call (.ref C) []) _ _ _
  obtain ⟨bm, N, nm, qn, bs, hdct, sn, sub, ab, col, dd, k0, k1, k2, k3, k5, mN, hC, hN, hni, T⟩ := exc_obj I.kIn q
  refine wpAny_call_exc_subT F T hC hN hni (fun h' a hm => ?_) (Nat.zero_le _)
  have hn : H a = none := I.hok.gone hm.new
  obtain ⟨t, ht, _, _⟩ := hm.there
  exact ⟨.ref a, upd H a (ExO (.ref C) a), I.laidN hm.keeps hm.new hn (exO_ok ht ⟨rfl, rfl⟩ rfl rfl rfl (show 4 < 6 by decide)), rfl, h a hn⟩
end
end Fx
set_option Elab.async false
set_option linter.all false
set_option maxRecDepth 100000
set_option maxHeartbeats 4000000
namespace Rl
open PySem PySem.Spec PyProof.Rows L2 Gd
/-! rules whose readings say of a new object only that it stands, and that all stands that stood -/
theorem same_new {H : Hp} {p : Addr} {o : HO} (n : H p = none) : Same H (upd H p o) := fun b u e => by
  rw [upd_ne (ne_of_none e n)]
  exact e
theorem Same.seqT {K : PySem.W.Frag} {H H' : Hp} {a : Addr} {xs : List V} (e : Same H H') (h : SqT K H a xs) : SqT K H' a xs := by
  rcases h with (h | ⟨o, h⟩) | h
  · exact .inl (.inl (e _ _ h))
  · exact .inl (.inr ⟨o, e _ _ h⟩)
  · exact .inr h
mutual
theorem dp_same {K : PySem.W.Frag} {H H' : Hp} (e : Same H H') : ∀ (d : PyData) {v : V}, Dp K H v d → Dp K H' v d
  | .none, _, h => by cases h; exact .non
  | .bool b, _, h => by cases h; exact .bl b
  | .int i, _, h => by cases h; exact .int i
  | .str z, _, h => by cases h; exact .str z
  | .list ds, _, h => by
    cases h with
    | lst hs ha => exact .lst (e.seq hs) (dp_sameAll e ds ha)
  | .tuple ds, _, h => by
    cases h with
    | tup hs ha => exact .tup (Same.seqT e hs) (dp_sameAll e ds ha)
  | .dict _, _, h => by cases h
theorem dp_sameAll {K : PySem.W.Frag} {H H' : Hp} (e : Same H H') : ∀ (ds : List PyData) {vs : List V}, DpAll K H vs ds → DpAll K H' vs ds
  | [], _, h => by cases h; exact .nil
  | d :: ds, _, h => by
    cases h with
    | cons h1 h2 => exact .cons (dp_same e d h1) (dp_sameAll e ds h2)
end
theorem rp_same {K : PySem.W.Frag} {H H' : Hp} (e : Same H H') {d : PyData} {v : V} (h : Rp K H v d) : Rp K H' v d := by
  rcases h with h | ⟨a, kvs, ds, rfl, ha, hp, rfl⟩
  · exact .inl (dp_same e d h)
  · exact .inr ⟨a, kvs, ds, rfl, e _ _ ha, hp, rfl⟩
/-- a new object o at p -/
def New (H : Hp) (p : Addr) (o : HO) (H' : Hp) : Prop := H p = none ∧ H' p = some o ∧ Same H H'
theorem New.mk' {H : Hp} {p : Addr} {o : HO} (n : H p = none) : New H p o (upd H p o) := ⟨n, upd_same, same_new n⟩
def tTupR (t : TA) : TE := fun σ H Q => t σ H fun xs H1 => xs.length ≤ 1000 ∧ ∀ p H2, New H1 p (.tup xs) H2 → Q (.ref p) H2
def tLstR (t : TA) : TE := fun σ H Q => t σ H fun xs H1 => xs.length ≤ 1000 ∧ ∀ p H2, New H1 p (.lst xs) H2 → Q (.ref p) H2
section
variable {X : Cx} {es : List Expr} {t : TA} {pos : Pos}
theorem sz1000 {n : Nat} (h : n ≤ 1000) : n ≤ sizeLine := Nat.le_of_lt (small1000 h)
theorem pe_tupR {x1} (h : PA X es t) : PE X (.Tuple es x1 pos) (tTupR t) := by
  refine ⟨fun pins s σ H Q I hq => ?_⟩
  refine wpAny_Tuple_spliced (thn (h.run pos pins s σ H _ I hq) fun us s1 ⟨xs, H1, I1, r, z, q⟩ => ⟨by rw [← r.length]; exact sz1000 z, ?_⟩)
  have hf : H1 s1.heap.objs.size = none := I1.hok.fresh (Nat.le_refl _)
  exact ⟨.ref s1.heap.objs.size, upd H1 s1.heap.objs.size (.tup xs), I1.laid (t' := s1.toks) (fun b u e => Heap.get?_push_of_some _ e) (Nat.le_refl _) ⟨sz1000 z, us, r, ⟨_, Heap.get?_push_size _ rfl, rfl, _, rfl⟩⟩, rfl, q _ _ (.mk' hf)⟩
theorem pe_lstR (h : PA X es t) : PE X (.List es pos) (tLstR t) := by
  refine ⟨fun pins s σ H Q I hq => ?_⟩
  refine wpAny_List_spliced (thn (h.run pos pins s σ H _ I hq) fun us s1 ⟨xs, H1, I1, r, z, q⟩ => ⟨by rw [← r.length]; exact sz1000 z, ?_⟩)
  have hf : H1 s1.heap.objs.size = none := I1.hok.fresh (Nat.le_refl _)
  exact ⟨.ref s1.heap.objs.size, upd H1 s1.heap.objs.size (.lst xs), I1.laid (t' := s1.toks) (fun b u e => Heap.get?_push_of_some _ e) (Nat.le_refl _) ⟨sz1000 z, us, 0, r, Heap.get?_push_size _ rfl⟩, rfl, q _ _ (.mk' hf)⟩
theorem pe_dnewR : PE X (.Dict [] [] pos) (fun σ H Q => ∀ p H2, New H p (.dK []) H2 → Q (.ref p) H2) :=
  ⟨fun pins s σ H Q I h => pe_dnewK.run pins s σ H Q I fun p np => h p _ (.mk' np)⟩
def rCatR : R2 := fun x y H Q => ∃ l b xs zs, x = .ref l ∧ y = .ref b ∧ H l = some (.lst xs) ∧ H b = some (.lst zs) ∧ xs.length + zs.length ≤ 1000 ∧ ∀ p H2, New H p (.lst (xs ++ zs)) H2 → Q (.ref p) H2
theorem op_catR : OpR X (binaryOp .Add) rCatR := by
  intro pins s σ H x y v u Q I rx ry h
  obtain ⟨l, b, xs, zs, e1, e2, h1, h2, z, q⟩ := h
  exact op_cat pins s σ H x y v u Q I rx ry ⟨l, b, xs, zs, e1, e2, h1, h2, sz1000 z, fun p np => q p _ (.mk' np)⟩
def rRepR : R2 := fun x y H Q => ∃ l k xs, x = .ref l ∧ y = .int k ∧ H l = some (.lst xs) ∧ 0 ≤ k ∧ k ≤ 100 ∧ xs.length * k.toNat ≤ 1000 ∧ ∀ p H2, New H p (.lst (List.replicate k.toNat xs).flatten) H2 → Q (.ref p) H2
theorem op_repR : OpR X (binaryOp .Mult) rRepR := by
  intro pins s σ H x y v u Q I rx ry h
  obtain ⟨l, k, xs, e1, e2, h1, h2, h3, z, q⟩ := h
  exact op_rep pins s σ H x y v u Q I rx ry ⟨l, k, xs, e1, e2, h1, by omega, by omega, sz1000 z, fun p np => q p _ (.mk' np)⟩
def rSlR (K : PySem.W.Frag) : V → Option Int → Option Int → Hp → VK → Prop := fun x lo hi H Q => ∃ a xs, x = .ref a ∧ SqL K H a xs ∧ ∀ p H2, New H p (.lst (cutV xs lo hi)) H2 → Q (.ref p) H2
theorem sl_listR : SlR X (rSlR X.K) := by
  intro pins s σ H x v vl vu lo hi sl Q I rx hs pl pu h
  obtain ⟨a, xs, e1, h1, q⟩ := h
  exact sl_list pins s σ H x v vl vu lo hi sl Q I rx hs pl pu ⟨a, xs, e1, h1, fun p np => q p _ (.mk' np)⟩
end
end Rl
namespace Fx
open PySem L2 Rl
open PySem.W (Frag)
/-- an error of the class at C with the one attribute f -/
def ErrAt (H : Hp) (a C : Addr) (f : Str) (y : V) : Prop := ∃ d, H a = some (exo a C (some d)) ∧ H d = some (exd d [(f, y)])
theorem ErrAt.same {H H' : Hp} (s : Same H H') {a C : Addr} {f : Str} {y : V} (h : ErrAt H a C f y) : ErrAt H' a C f y :=
  let ⟨d, h1, h2⟩ := h
  ⟨d, s _ _ h1, s _ _ h2⟩
theorem errAt_new {H : Hp} {a d C : Addr} {f : Str} {y : V} (na : H a = none) (nd : H d = none) (ne : d ≠ a) : ErrAt (upd (upd H d (exd d [(f, y)])) a (exo a C (some d))) a C f y ∧ Same H (upd (upd H d (exd d [(f, y)])) a (exo a C (some d))) :=
  ⟨⟨d, upd_same, by rw [upd_ne ne, upd_same]⟩, fun b u e => by rw [upd_ne (ne_of_none e na), upd_ne (ne_of_none e nd)]; exact e⟩
def tErrR (C : Addr) (f : Str) (te : TE) : TE := fun σ H Q => te σ H fun y H1 => ∀ a H2, ErrAt H2 a C f y → Same H1 H2 → Q (.ref a) H2
section
variable {X : Cx} {B newId initId : String} {bmB : List Value} {C W fI : Addr} {f : Str} {k : Nat} {x : Str} {p pos kpos : Pos} {e : Expr} {te : TE}
theorem pe_errR (Z : Root B newId initId bmB) (T : Err1 X.prog X.K X.mg newId initId bmB C W fI f) (hr : Room (k + 1) X.A) (gC : X.mg x = some (.ref C)) (hg : Gl X x) (he : PE X e te) (hs : starEach [e] X.env = (false, eval e X.env) :: starEach [] X.env := by rfl)
    (hdb : (x == ("__debug__" : Str)) = false := by decide) : PE X (.Call (.Name x p) [e] [] pos) (tErrR C f te) := by
  refine ⟨fun pins s σ H Q I h => ?_⟩
  refine wpAny_Call_Name_kw (ld_glob I hg gC ?_ hdb)
  refine PySem.W.callWith_K (h₀ := X.base) I.ok.mod.kin T.t.kC ?_ hs (by rfl)
  rw [hs]
  show wpAny _ _ (spliced ((false, eval e X.env) :: backTo pos (starEach [] X.env))) _ _ s
  refine Calls.spliced_cons (thn (he.run pins s σ H _ I h) fun u s1 ⟨y, H1, I1, r1, q1⟩ => ?_)
  exact Calls.spliced_nil ⟨I1.kIn, run_err Z T hr I1 r1 (.inl ⟨rfl, rfl⟩) fun a d na nd ne => q1 a _ (errAt_new na nd ne).1 (errAt_new na nd ne).2⟩
theorem pe_errKR (Z : Root B newId initId bmB) (T : Err1 X.prog X.K X.mg newId initId bmB C W fI f) (hr : Room (k + 1) X.A) (gC : X.mg x = some (.ref C)) (hg : Gl X x) (he : PE X e te)
    (hdb : (x == ("__debug__" : Str)) = false := by decide) : PE X (.Call (.Name x p) [] [⟨some f, e, kpos⟩] pos) (tErrR C f te) := by
  refine ⟨fun pins s σ H Q I h => ?_⟩
  refine wpAny_Call_Name_kw (ld_glob I hg gC ?_ hdb)
  refine PySem.W.callWith_KW0 (h₀ := X.base) I.ok.mod.kin T.t.kC (by rfl) ?_ (by rfl)
  have hk : PK X [⟨some f, e, kpos⟩] (tCons te tNil) := pk_cons he pk_nil
  refine thn (hk.run pos pins s σ H (fun vs H1 => match vs with | [y] => ∀ a H2, ErrAt H2 a C f y → Same H1 H2 → Q (.ref a) H2 | _ => False) I h) fun us s1 ⟨vs, H1, I1, r1, q1⟩ => ⟨I1.kIn, ?_⟩
  cases r1 with
  | nil => exact q1.elim
  | cons ry rn =>
    cases rn with
    | nil => exact run_err Z T hr I1 ry (.inr ⟨rfl, rfl⟩) fun a d na nd ne => q1 a _ (errAt_new na nd ne).1 (errAt_new na nd ne).2
    | cons r2 rn => exact q1.elim
end
end Fx
set_option Elab.async false
set_option linter.all false
set_option maxRecDepth 100000
set_option maxHeartbeats 4000000
namespace Rl
open PySem PySem.Spec PyProof.Rows L2 Gd
/-! comprehensions whose readings say what each item is -/
section
variable {J : It} {n : Nat} {G : Hp → Prop} {Y : Nat → Hp → V → Hp → Prop}
/-- [e for x in it]: each item y keeps E, which says of the heap without the list that grows -/
theorem lcR (w : Walk J n G Y) {g : TG} {te : TE} {vs : List Nat} {σ : L2.St} {H1 : Hp} {Q : Addr → Hp → Prop} (n1 : n ≤ 1000) (hG : ∀ H, Same H1 H → G H) (E : Nat → V → Hp → Prop) (hE : ∀ i y H H', Same H H' → E i y H → E i y H')
    (turn : ∀ (D : Addr) (acc : List V) (i : Nat) (x : V) (H H' : Hp) (K : V → Hp → Prop), i < n → Same H1 H → H1 D = none → H D = some (.lst acc) → Y i H x H' → (∀ y H4, Same H H4 → E i y (delH H4 D) → K y H4) → g x (wipe σ vs) H' fun σ2 H2 => wipe σ2 vs = wipe σ vs ∧ te σ2 H2 K)
    (done : ∀ (D : Addr) (H' : Hp) (ys : List V), New H1 D (.lst ys) H' → ys.length = n → (∀ i y, ys[i]? = some y → E i y (delH H' D)) → Q D H') :
    ∀ D, H1 D = none → ∃ W : Nat → Nat → Hp → Prop, (∃ m, W 0 m (upd H1 D (.lst []))) ∧ ∀ i m H, W i m H →
      (J.stop i H ∧ Q D H) ∨ (J.go i H ∧ ∃ Nx : Hp → Prop, (∀ H', Nx H' → ∃ m', m' < m ∧ W (i + 1) m' H') ∧ ∀ x H', J.yld i H x H' → g x (wipe σ vs) H' fun σ2 H2 => wipe σ2 vs = wipe σ vs ∧ tYes σ2 H2 fun b H3 =>
        if b = true then te σ2 H3 fun y H4 => ∃ acc, H4 D = some (.lst acc) ∧ acc.length < sizeLine ∧ Nx (upd H4 D (.lst (acc ++ [y]))) else Nx H3) := by
  intro D hD
  refine lc_it w (Qd := fun H => Q D H) (fun i H => Same H1 H ∧ ∃ acc, H D = some (.lst acc) ∧ acc.length = i ∧ ∀ j y, acc[j]? = some y → E j y (delH H D)) ⟨same_new hD, [], upd_same, rfl, fun j y e => by simp at e⟩ (fun i H _ ⟨s, _⟩ => hG H s) ?_ ?_
  · rintro i x H H' hi ⟨s, acc, ha, hl, he⟩ y
    refine turn D acc i x H H' _ hi s hD ha y fun v H4 s4 e4 => ?_
    have hD4 := s4 _ _ ha
    refine ⟨acc, hD4, small1000 (by omega), fun b u e => ?_, acc ++ [v], upd_same, by rw [List.length_append, hl]; rfl, fun j z ej => ?_⟩
    · rw [upd_ne (ne_of_none e hD)]
      exact s4 _ _ (s b u e)
    · have up : ∀ {Ha : Hp}, Same Ha H4 → Same (delH Ha D) (delH (upd H4 D (.lst (acc ++ [v]))) D) := fun {Ha} sa b u e => by
        by_cases q : b = D
        · rw [q, delH_same] at e
          cases e
        · rw [delH_ne q] at e
          rw [delH_ne q, upd_ne q]
          exact sa b u e
      by_cases q : j < acc.length
      · rw [List.getElem?_append_left q] at ej
        exact hE _ _ _ _ (up s4) (he j z ej)
      · rw [List.getElem?_append_right (by omega)] at ej
        have e0 : j - acc.length = 0 := by
          cases r : j - acc.length with
          | zero => rfl
          | succ m =>
            rw [r] at ej
            simp at ej
        rw [e0] at ej
        have ez : v = z := by simpa using ej
        subst ez
        have ej2 : j = i := by omega
        subst ej2
        exact hE _ _ _ _ (up (Same.refl _)) e4
  · rintro H ⟨s, acc, ha, hl, he⟩
    exact done D H acc ⟨hD, ha, s⟩ hl he
end
/-- a list told item by item -/
theorem list_of {n : Nat} {ys : List V} {f : Nat → V} (hl : ys.length = n) (h : ∀ i y, ys[i]? = some y → y = f i) : ys = (List.range n).map f := by
  apply List.ext_getElem
  · rw [hl, List.length_map, List.length_range]
  · intro i h1 h2
    rw [List.getElem_map, List.getElem_range]
    exact h i _ (by simp [h1])
/-! ### types of data -/
def tyN : PyData → String
  | .none => "NoneType"
  | .bool _ => "bool"
  | .int _ => "int"
  | .str _ => "str"
  | .list _ => "list"
  | .tuple _ => "tuple"
  | .dict _ => "dict"
theorem sql_ty {K : PySem.W.Frag} {H : Hp} {a : Addr} {xs : List V} (h : SqL K H a xs) : TyX K H (.ref a) (.type "list") := by
  rcases h with (h | ⟨o, h⟩) | ⟨o, its, n, h, c, _⟩
  · exact .base (.lst h)
  · exact .base (.frz h)
  · exact .kList h c
theorem sqt_ty {K : PySem.W.Frag} {H : Hp} {a : Addr} {xs : List V} (h : SqT K H a xs) : TyX K H (.ref a) (.type "tuple") := by
  rcases h with (h | ⟨o, h⟩) | ⟨o, its, n, h, c, _⟩
  · exact .base (.tup h)
  · exact .fTuple h
  · exact .kTuple h c
theorem rp_ty {K : PySem.W.Frag} {H : Hp} {v : V} {d : PyData} (h : Rp K H v d) : TyX K H v (.type (tyN d)) := by
  rcases h with h | ⟨a, kvs, ds, rfl, ha, _, rfl⟩
  · cases h with
    | non => exact .base .non
    | bl b => exact .base (.bl b)
    | int i => exact .base (.int i)
    | str z => exact .base (.str z)
    | lst h _ => exact sql_ty h
    | tup h _ => exact sqt_ty h
  · exact .base (.dK ha)
/-- isinstance(x, T), T a built-in type, x data -/
def rIsD (K : PySem.W.Frag) (T : String) : List V → Hp → VK → Prop := fun xs H Q => ∃ (v : V) (d : PyData) (b : Bool), xs = [v, .ty T] ∧ Rp K H v d ∧ kitB (tyN d) T = some b ∧ Q (.bl b) H
theorem call_isD {X : Cx} {T : String} : CallR X (.builtin "isinstance") (rIsD X.K T) := by
  intro pins s σ H xs us Q I r h
  obtain ⟨v, d, b, e, hd, hb, q⟩ := h
  exact call_isi pins s σ H xs us Q I r ⟨v, .ty T, .type (tyN d), .type T, b, e, .ty T, rp_ty hd, kit_ty hb, q⟩
theorem kit_int (d : PyData) : kitB (tyN d) "int" = some (match d with | .int _ => true | .bool _ => true | _ => false) := by
  cases d <;> (first | decide +kernel | (simp only [tyN]; decide +kernel))
theorem kit_bool (d : PyData) : kitB (tyN d) "bool" = some (match d with | .bool _ => true | _ => false) := by
  cases d <;> (first | decide +kernel | (simp only [tyN]; decide +kernel))
theorem kit_str (d : PyData) : kitB (tyN d) "str" = some (match d with | .str _ => true | _ => false) := by
  cases d <;> (first | decide +kernel | (simp only [tyN]; decide +kernel))
theorem kit_tuple (d : PyData) : kitB (tyN d) "tuple" = some (match d with | .tuple _ => true | _ => false) := by
  cases d <;> (first | decide +kernel | (simp only [tyN]; decide +kernel))
theorem dp_at {K : PySem.W.Frag} {H : Hp} : ∀ {vs : List V} {ds : List PyData}, DpAll K H vs ds → ∀ {i : Nat} {v : V}, vs[i]? = some v → ∃ d, ds[i]? = some d ∧ Dp K H v d
  | _, _, .nil, i, v, e => by simp at e
  | _, _, .cons a b, 0, v, e => by
    simp at e
    subst e
    exact ⟨_, rfl, a⟩
  | _, _, .cons a b, i + 1, v, e => dp_at b (i := i) (by simpa using e)
theorem dp_len {K : PySem.W.Frag} {H : Hp} : ∀ {vs : List V} {ds : List PyData}, DpAll K H vs ds → vs.length = ds.length
  | _, _, .nil => rfl
  | _, _, .cons a b => by
    rw [List.length_cons, List.length_cons, dp_len b]
theorem dp_of {K : PySem.W.Frag} {H : Hp} : ∀ {vs : List V} {ds : List PyData}, vs.length = ds.length → (∀ (i : Nat) (v : V), vs[i]? = some v → ∃ d, ds[i]? = some d ∧ Dp K H v d) → DpAll K H vs ds
  | [], [], _, _ => .nil
  | [], _ :: _, h, _ => by simp at h
  | _ :: _, [], h, _ => by simp at h
  | v :: vs, d :: ds, h, e => by
    obtain ⟨d', e1, e2⟩ := e 0 v rfl
    have e3 : d = d' := by simpa using e1
    subst e3
    exact .cons e2 (dp_of (by simpa using h) fun i v q => e (i + 1) v (by simpa using q))
end Rl
set_option Elab.async false
set_option linter.all false
set_option maxRecDepth 100000
set_option maxHeartbeats 8000000
namespace Vd
open PySem PySem.Spec PyProof.Rows L2 Gd Rl LamX
/-! nested values: as data; a dict within them tells nothing of what it holds -/
mutual
inductive Vp (K : PySem.W.Frag) (H : Hp) : V → PyData → Prop where
  | non : Vp K H .non .none
  | bl (b : Bool) : Vp K H (.bl b) (.bool b)
  | int (i : Int) : Vp K H (.int i) (.int i)
  | str (z : Str) : Vp K H (.str z) (.str z)
  | lst {a : Addr} {xs : List V} {ds : List PyData} (h : SqL K H a xs) (hs : VpAll K H xs ds) : Vp K H (.ref a) (.list ds)
  | tup {a : Addr} {xs : List V} {ds : List PyData} (h : SqT K H a xs) (hs : VpAll K H xs ds) : Vp K H (.ref a) (.tuple ds)
  | dct {a : Addr} {kvs : List (Key × V)} (h : H a = some (.dK kvs)) : Vp K H (.ref a) (.dict [])
inductive VpAll (K : PySem.W.Frag) (H : Hp) : List V → List PyData → Prop where
  | nil : VpAll K H [] []
  | cons {v : V} {d : PyData} {vs : List V} {ds : List PyData} (h : Vp K H v d) (hs : VpAll K H vs ds) : VpAll K H (v :: vs) (d :: ds)
end
theorem sl_ext {K : PySem.W.Frag} {H H' : Hp} {a : Addr} {xs : List V} (e : ExtN H H') (h : SqL K H a xs) : SqL K H' a xs := by
  rcases h with (h | ⟨o, h⟩) | h
  · exact .inl (.inl (e _ _ h fun _ z => nomatch z))
  · exact .inl (.inr ⟨o, e _ _ h fun _ z => nomatch z⟩)
  · exact .inr h
theorem st_ext {K : PySem.W.Frag} {H H' : Hp} {a : Addr} {xs : List V} (e : ExtN H H') (h : SqT K H a xs) : SqT K H' a xs := by
  rcases h with (h | ⟨o, h⟩) | h
  · exact .inl (.inl (e _ _ h fun _ z => nomatch z))
  · exact .inl (.inr ⟨o, e _ _ h fun _ z => nomatch z⟩)
  · exact .inr h
mutual
theorem vp_ext {K : PySem.W.Frag} {H H' : Hp} (e : ExtN H H') : ∀ (d : PyData) {v : V}, Vp K H v d → Vp K H' v d
  | .none, _, h => by cases h; exact .non
  | .bool b, _, h => by cases h; exact .bl b
  | .int i, _, h => by cases h; exact .int i
  | .str z, _, h => by cases h; exact .str z
  | .list ds, _, h => by
    cases h with
    | lst hs ha => exact .lst (sl_ext e hs) (vp_extAll e ds ha)
  | .tuple ds, _, h => by
    cases h with
    | tup hs ha => exact .tup (st_ext e hs) (vp_extAll e ds ha)
  | .dict _, _, h => by
    cases h with
    | dct h => exact .dct (e _ _ h fun _ z => nomatch z)
theorem vp_extAll {K : PySem.W.Frag} {H H' : Hp} (e : ExtN H H') : ∀ (ds : List PyData) {vs : List V}, VpAll K H vs ds → VpAll K H' vs ds
  | [], _, h => by cases h; exact .nil
  | d :: ds, _, h => by
    cases h with
    | cons h1 h2 => exact .cons (vp_ext e d h1) (vp_extAll e ds h2)
end
theorem ext_same {H H' : Hp} (s : Same H H') : ExtN H H' := fun b o e _ => s b o e
theorem vp_same {K : PySem.W.Frag} {H H' : Hp} (s : Same H H') {d : PyData} {v : V} (h : Vp K H v d) : Vp K H' v d := vp_ext (ext_same s) d h
theorem vp_sameAll {K : PySem.W.Frag} {H H' : Hp} (s : Same H H') {ds : List PyData} {vs : List V} (h : VpAll K H vs ds) : VpAll K H' vs ds := vp_extAll (ext_same s) ds h
mutual
theorem vp_dp {K : PySem.W.Frag} {H : Hp} : ∀ (d : PyData) {v : V}, Dp K H v d → Vp K H v d
  | .none, _, h => by cases h; exact .non
  | .bool b, _, h => by cases h; exact .bl b
  | .int i, _, h => by cases h; exact .int i
  | .str z, _, h => by cases h; exact .str z
  | .list ds, _, h => by
    cases h with
    | lst hs ha => exact .lst hs (vp_dpAll ds ha)
  | .tuple ds, _, h => by
    cases h with
    | tup hs ha => exact .tup hs (vp_dpAll ds ha)
  | .dict _, _, h => by cases h
theorem vp_dpAll {K : PySem.W.Frag} {H : Hp} : ∀ (ds : List PyData) {vs : List V}, DpAll K H vs ds → VpAll K H vs ds
  | [], _, h => by cases h; exact .nil
  | d :: ds, _, h => by
    cases h with
    | cons h1 h2 => exact .cons (vp_dp d h1) (vp_dpAll ds h2)
end
/-- the same, no dict told -/
def noD : PyData → PyData
  | .dict _ => .dict []
  | d => d
theorem vp_rp {K : PySem.W.Frag} {H : Hp} {v : V} {d : PyData} (h : Rp K H v d) : Vp K H v (noD d) := by
  rcases h with h | ⟨a, kvs, ds, rfl, h1, _, rfl⟩
  · have h2 := vp_dp d h
    cases d <;> first | exact h2 | cases h
  · exact .dct h1
theorem vp_ty {K : PySem.W.Frag} {H : Hp} {v : V} {d : PyData} (h : Vp K H v d) : TyX K H v (.type (tyN d)) := by
  cases h with
  | non => exact .base .non
  | bl b => exact .base (.bl b)
  | int i => exact .base (.int i)
  | str z => exact .base (.str z)
  | lst h _ => exact sql_ty h
  | tup h _ => exact sqt_ty h
  | dct h => exact .base (.dK h)
theorem vp_len {K : PySem.W.Frag} {H : Hp} : ∀ {vs : List V} {ds : List PyData}, VpAll K H vs ds → vs.length = ds.length
  | _, _, .nil => rfl
  | _, _, .cons a b => by
    rw [List.length_cons, List.length_cons, vp_len b]
theorem vp_at {K : PySem.W.Frag} {H : Hp} : ∀ {vs : List V} {ds : List PyData}, VpAll K H vs ds → ∀ {i : Nat} {v : V}, vs[i]? = some v → ∃ d, ds[i]? = some d ∧ Vp K H v d
  | _, _, .nil, i, v, e => by simp at e
  | _, _, .cons a b, 0, v, e => by
    simp at e
    subst e
    exact ⟨_, rfl, a⟩
  | _, _, .cons a b, i + 1, v, e => vp_at b (i := i) (by simpa using e)
theorem vp_take {K : PySem.W.Frag} {H : Hp} : ∀ (i : Nat) {vs : List V} {ds : List PyData}, VpAll K H vs ds → VpAll K H (vs.take i) (ds.take i)
  | 0, _, _, _ => .nil
  | i + 1, _, _, .nil => .nil
  | i + 1, _, _, .cons a b => .cons a (vp_take i b)
theorem vp_drop {K : PySem.W.Frag} {H : Hp} : ∀ (i : Nat) {vs : List V} {ds : List PyData}, VpAll K H vs ds → VpAll K H (vs.drop i) (ds.drop i)
  | 0, _, _, h => h
  | i + 1, _, _, .nil => .nil
  | i + 1, _, _, .cons a b => vp_drop i b
theorem vp_app {K : PySem.W.Frag} {H : Hp} : ∀ {xs ys : List V} {ds es : List PyData}, VpAll K H xs ds → VpAll K H ys es → VpAll K H (xs ++ ys) (ds ++ es)
  | _, _, _, _, .nil, q => q
  | _, _, _, _, .cons a b, q => .cons a (vp_app b q)
theorem vp_rev {K : PySem.W.Frag} {H : Hp} : ∀ {xs : List V} {ds : List PyData}, VpAll K H xs ds → VpAll K H xs.reverse ds.reverse
  | _, _, .nil => .nil
  | _, _, .cons a b => by
    rw [List.reverse_cons, List.reverse_cons]
    exact vp_app (vp_rev b) (.cons a .nil)
theorem vp_tup {K : PySem.W.Frag} {H : Hp} {v : V} {ds : List PyData} (h : Vp K H v (.tuple ds)) : ∃ a xs, v = .ref a ∧ SqT K H a xs ∧ VpAll K H xs ds := by
  cases h with
  | tup h hs => exact ⟨_, _, rfl, h, hs⟩
/-- isinstance(x, T), T a built-in type, x a nested value -/
def rIsV (K : PySem.W.Frag) (T : String) : List V → Hp → VK → Prop := fun xs H Q => ∃ (v : V) (d : PyData) (b : Bool), xs = [v, .ty T] ∧ Vp K H v d ∧ kitB (tyN d) T = some b ∧ Q (.bl b) H
theorem call_isV {X : Cx} {T : String} : CallR X (.builtin "isinstance") (rIsV X.K T) := by
  intro pins s σ H xs us Q I r h
  obtain ⟨v, d, b, e, hd, hb, q⟩ := h
  exact call_isi pins s σ H xs us Q I r ⟨v, .ty T, .type (tyN d), .type T, b, e, .ty T, vp_ty hd, kit_ty hb, q⟩
/-! ### how deep and how wide -/
def Fit (m : Nat) : Nat → PyData → Prop
  | 0, _ => False
  | n + 1, .tuple ds => ds.length ≤ m ∧ ∀ d ∈ ds, Fit m n d
  | n + 1, .list ds => ds.length ≤ m ∧ ∀ d ∈ ds, Fit m n d
  | _ + 1, _ => True
theorem Fit.mono {m m' : Nat} (hm : m ≤ m') : ∀ {n n' : Nat} {d : PyData}, n ≤ n' → Fit m n d → Fit m' n' d
  | 0, _, _, _, h => h.elim
  | n + 1, 0, _, hn, _ => absurd hn (by omega)
  | n + 1, n' + 1, .tuple ds, hn, h => ⟨Nat.le_trans h.1 hm, fun d hd => Fit.mono hm (Nat.le_of_succ_le_succ hn) (h.2 d hd)⟩
  | n + 1, n' + 1, .list ds, hn, h => ⟨Nat.le_trans h.1 hm, fun d hd => Fit.mono hm (Nat.le_of_succ_le_succ hn) (h.2 d hd)⟩
  | n + 1, n' + 1, .none, _, _ => trivial
  | n + 1, n' + 1, .bool _, _, _ => trivial
  | n + 1, n' + 1, .int _, _, _ => trivial
  | n + 1, n' + 1, .str _, _, _ => trivial
  | n + 1, n' + 1, .dict _, _, _ => trivial
/-! ### parts of a tuple -/
theorem cut_drop {xs : List V} {i : Nat} (h : i ≤ xs.length) : cutV xs (some (i : Int)) none = xs.drop i := by
  unfold cutV
  rw [HT.sIx_none, HT.sIx_nat, Nat.min_eq_left h]
  exact List.take_of_length_le (by rw [List.length_drop]; exact Nat.le_refl _)
theorem cut_mid {xs : List V} {i j : Nat} (h : j ≤ xs.length) (hi : i ≤ j) : cutV xs (some (i : Int)) (some (j : Int)) = (xs.drop i).take (j - i) := by
  unfold cutV
  rw [HT.sIx_nat, HT.sIx_nat, Nat.min_eq_left h, Nat.min_eq_left (Nat.le_trans hi h)]
theorem catA_vp {K : PySem.W.Frag} {H : Hp} {x y : V} {ds es : List PyData} {Q : VK} (hx : Vp K H x (.tuple ds)) (hy : Vp K H y (.tuple es)) (hl : ds.length + es.length ≤ 1000) (h : ∀ r H', Same H H' → ∀ xs ys, VpAll K H xs ds → VpAll K H ys es → (∃ a, r = .ref a ∧ SqT K H' a (xs ++ ys)) → Q r H') : rCatA K x y H Q := by
  obtain ⟨a, xs, rfl, ha, hxs⟩ := vp_tup hx
  obtain ⟨b, ys, rfl, hb, hys⟩ := vp_tup hy
  have l1 := vp_len hxs
  have l2 := vp_len hys
  refine ⟨a, b, xs, ys, rfl, rfl, ha, hb, sz1000 (by omega), fun e0 => ?_, fun n0 e0 => ?_, fun n0 n1 p np => ?_⟩
  · subst e0
    exact h _ H (Same.refl _) [] ys hxs hys ⟨b, rfl, hb⟩
  · subst e0
    exact h _ H (Same.refl _) xs [] hxs hys ⟨a, rfl, by rw [List.append_nil]; exact ha⟩
  · have s := same_new (o := .tup (xs ++ ys)) np
    exact h _ _ s xs ys hxs hys ⟨p, rfl, SqT.of upd_same⟩
end Vd
namespace L2
open PySem PySem.Spec PyProof.Rows
/-! a tuple beside the empty tuple -/
def rNeT (K : PySem.W.Frag) : R2 := fun x y H Q => ∃ a b xs, x = .ref a ∧ y = .ref b ∧ SqT K H a xs ∧ SqT K H b [] ∧ Q (.bl (!xs.isEmpty)) H
def rEqT (K : PySem.W.Frag) : R2 := fun x y H Q => ∃ a b xs, x = .ref a ∧ y = .ref b ∧ SqT K H a xs ∧ SqT K H b [] ∧ Q (.bl xs.isEmpty) H
section
variable {X : Cx}
theorem op_neT (hu : X.A.units + 64 < cLine) : OpR X (compareOp .NotEq) (rNeT X.K) := by
  intro pins s σ H x y v u Q I rx ry h
  obtain ⟨a, b, xs, rfl, rfl, ha, hb, q⟩ := h
  cases rx
  cases ry
  obtain ⟨ia, ra, ⟨oa, ha1, ha2, na, ha3⟩, _⟩ := I.tuple ha
  obtain ⟨ib, rb, ⟨ob, hb1, hb2, nb, hb3⟩, _⟩ := I.tuple hb
  cases rb
  have h2 := SeqAt.RcNeAt.tuples (A := X.A) (s := s) (e := fun _ => true) ⟨oa, ha1, ha2, na, ha3⟩ ⟨ob, hb1, hb2, nb, hb3⟩ (by omega) fun j h1 h2 => by simp at h2
  refine EqBoolInt.of_rcne h2 ?_
  refine ⟨.bl (!xs.isEmpty), H, I, ?_, q⟩
  cases ra with
  | nil => rfl
  | cons r1 r2 => rfl
theorem op_eqT (hu : X.A.units + 64 < cLine) : OpR X (compareOp .Eq) (rEqT X.K) := by
  intro pins s σ H x y v u Q I rx ry h
  obtain ⟨a, b, xs, rfl, rfl, ha, hb, q⟩ := h
  cases rx
  cases ry
  obtain ⟨ia, ra, ⟨oa, ha1, ha2, na, ha3⟩, _⟩ := I.tuple ha
  obtain ⟨ib, rb, ⟨ob, hb1, hb2, nb, hb3⟩, _⟩ := I.tuple hb
  cases rb
  have h2 := SeqAt.RcAt.tuples (A := X.A) (s := s) (e := fun _ => true) ⟨oa, ha1, ha2, na, ha3⟩ ⟨ob, hb1, hb2, nb, hb3⟩ (by omega) fun j h1 h2 => by simp at h2
  refine EqBoolInt.of_rc h2 ?_
  refine ⟨.bl xs.isEmpty, H, I, ?_, q⟩
  cases ra with
  | nil => rfl
  | cons r1 r2 => rfl
end
end L2
set_option Elab.async false
set_option linter.all false
set_option maxRecDepth 100000
set_option maxHeartbeats 8000000
namespace Te
open PySem PySem.Spec PyProof.Rows L2 Gd Rl
/-! enumerate over what begins as told, here a tuple -/
abbrev ecell (h : Heap) : Obj := ⟨.type "enumerate", none, .fields #[.none, .bool false, .ref h.objs.size, rawInt 0, .none, .none], #[]⟩
theorem enum_new1 {v : Value} {o : Obj} {S : Heap → Prop} (B : Begins v o S) :
    Meets (Builtin.«enumerate.__new__» ⟨[.type "enumerate", v], []⟩) (fun _ R s => S s.heap ∧ R (.ok (.ret (.ref (s.heap.push o).objs.size))) { s with heap := (s.heap.push o).push (ecell s.heap) }) :=
  .of_wp fun prog w A R s h => by
    obtain ⟨hp, g, d, tk, os⟩ := s
    obtain ⟨hS, h⟩ := h
    have sub1 := sub_enumerate
    have it1 : ∀ {A1 : Around} {E1 Q1 : Value → Shared → Prop}, Q1 (.ref hp.objs.size) ⟨hp.push o, g, d, tk, os⟩ → wpAny (model prog w) A1 (pyIter v) Q1 E1 ⟨hp, g, d, tk, os⟩ := fun q => B.iter prog w _ _ ⟨hp, g, d, tk, os⟩ _ hS q
    wp_walk using it1
    refine wpAny_stack_any fun st => wpAny_pure ?_
    split
    · rename_i c _ _ _ _ _
      cases (c == Value.type "enumerate") <;> (wp_walk using it1; exact ⟨_, rfl, h⟩)
    · wp_walk using it1
      exact ⟨_, rfl, h⟩
theorem enum_call1 {prog : Program} {w : World} {A : Around} {E : Value → Shared → Prop} {s : Shared} {v : Value} {o : Obj} {S : Heap → Prop} {Q : Value → Shared → Prop} (B : Begins v o S) (hS : S s.heap)
    (h : ∀ h', IsEnum h' (s.heap.objs.size + 1) s.heap.objs.size 0 .none → h'.get? s.heap.objs.size = some o → (∀ b ob, s.heap.get? b = some ob → h'.get? b = some ob) → Q (.ref (s.heap.objs.size + 1)) { s with heap := h' }) :
    wpAny (model prog w) A (call (.type "enumerate") [v]) Q E s := by
  refine callType_new F.called_enumerate (by decide) (F.typeCall_enumerate_1 _) (F.newCall_enumerate_1 _) (fun obj => F.args_object_init_2 obj _) F.entry_enumerate_new (enum_new1 B) ⟨hS, ?_⟩
  have z1 : (s.heap.push o).objs.size = s.heap.objs.size + 1 := Heap.size_push ..
  show _ ∧ _
  rw [z1]
  have he : IsEnum ((s.heap.push o).push (ecell s.heap)) (s.heap.objs.size + 1) s.heap.objs.size 0 .none := by
    have q := Heap.get?_push_size (s.heap.push o) (o := ecell s.heap) rfl
    rw [z1] at q
    exact q
  exact ⟨⟨_, he, rfl⟩, h _ he (Heap.get?_push_of_some _ (Heap.get?_push_size _ B.free)) fun b ob x => Heap.get?_push_of_some _ (Heap.get?_push_of_some _ x)⟩
/-- the tuple at a as it stands, each item in a new pair behind its index -/
def Iet (K : PySem.W.Frag) (a : Addr) : It :=
  ⟨fun i H => ∃ (xs : List V) (x : V), SqT K H a xs ∧ xs[i]? = some x, fun i H v H' => ∃ T x, v = .ref T ∧ H T = none ∧ H' = upd H T (.tup [.int (i : Nat), x]) ∧ ∀ xs, SqT K H a xs → xs[i]? = some x, fun i H => ∃ xs : List V, SqT K H a xs ∧ xs.length ≤ i⟩
abbrev StE (a e it : Addr) (i : Nat) (h : Heap) : Prop := (∃ old, IsEnum h e it ((i : Nat) : Int) old) ∧ h.IsTupleIter it a i ∧ (e ≠ it ∧ a ≠ it ∧ e ≠ a)
theorem two {b e it : Addr} (h : b ∈ [e, it]) : b = e ∨ b = it := by simpa using h
theorem turn_enumT {P : Program} {w : World} {K : PySem.W.Frag} {elts : List Expr} {kk : Nat} {tpos : Pos} (a e it : Addr) : Turn P w K (.Tuple elts kk tpos) (Iet K a) [e, it] e (StE a e it) where
  mem := by simp
  obj := fun i h st b hb => by
    obtain ⟨⟨old, he⟩, ⟨o, ho, hc, hd⟩, _⟩ := st
    rcases two hb with rfl | rfl
    · exact ⟨_, he, fun v q => nomatch q⟩
    · exact ⟨o, ho, fun v q => by rw [hd] at q; cases q⟩
  keep := fun i h h' st k => let ⟨⟨old, he⟩, hi, hne⟩ := st; ⟨⟨old, k e (by simp) _ he⟩, hi.at fun o q => k it (by simp) o q, hne⟩
  item := by
    intro X hP hw hK hc i pins s σ H E I hf st hg
    subst hP hw hK
    obtain ⟨⟨old, he⟩, hit, n1, n2, n3⟩ := st
    obtain ⟨xs, x, hq, hx⟩ := hg
    obtain ⟨its, rv, p, hz⟩ := I.tuple hq
    obtain ⟨u, hu, ru⟩ := rv.get hx
    have hel : e < s.heap.objs.size := Heap.lt_size he
    have hil : it < s.heap.objs.size := by
      obtain ⟨_, q, _⟩ := hit
      exact Heap.lt_size q
    have D := Draws.tuple (prog := X.prog) (w := X.w) (A := X.A.in1) (I.ok.hd hc) it a n2 its.toArray
    have hlt : i < its.toArray.size := by
      have := (List.getElem?_eq_some_iff.mp hu).1
      simpa using this
    refine wpAny_pyNext_enum_itemD D he ⟨hit, p⟩ hlt n1 (fun hm => ?_) fun y h' tk hy ho hst' hT hsz hk => ?_
    · rcases (by simpa using hm : e = it ∨ e = a) with q | q
      · exact n1 q
      · exact n3 q
    · have ey : y = u := by
        have h1 : its[i]? = some y := by simpa using hy
        rw [hu] at h1
        exact (Option.some.inj h1).symm
      subst ey
      refine ⟨_, rfl, wpAny_letOwnedTupleGo_enum (s := { s with heap := h', toks := tk + 1 }) ho fun h'' he' sb => ?_⟩
      have hT2 : h''.get? s.heap.objs.size = some { cls := .type "tuple", data := .seq #[.int i tk, y] } := (sb.2 _ (Nat.ne_of_gt hel)).trans hT
      have new : ObjOk X.prog X.w (upd H s.heap.objs.size (.tup [.int (i : Nat), x])) h'' s.heap.objs.size (.tup [.int (i : Nat), x]) :=
        ⟨by show 2 ≤ sizeLine; decide, [.int i tk, y], .cons ⟨_, rfl⟩ (.cons ru .nil), ⟨_, hT2, rfl, _, rfl⟩⟩
      have I1 : Inv X pins σ (upd H s.heap.objs.size (.tup [.int (i : Nat), x])) { s with heap := h'', toks := tk + 1 } :=
        I.turnedNew (ch := [e, it]) (fun b ob hb q => (sb.2 b (fun z => hb (by simp [z]))).trans (hk b ob (fun z => hb (by simp [z])) (fun z => hb (by simp [z])) q)) hf (Nat.le_refl _) new
      refine ⟨.ref s.heap.objs.size, _, I1, rfl, ⟨_, x, rfl, I.hok.fresh (Nat.le_refl _), rfl, fun ys hys => by rw [I.tuple_inj hys hq]; exact hx⟩, ⟨⟨y, ?_⟩, hst'.1.at fun o q => (sb.2 it (Ne.symm n1)).trans q, n1, n2, n3⟩, fun b hb => ?_⟩
      · rw [show ((i + 1 : Nat) : Int) = (i : Int) + 1 by omega]
        exact he'
      · have hb' : b < s.heap.objs.size := by
          rcases two hb with rfl | rfl
          · exact hel
          · exact hil
        rw [upd_ne (Nat.ne_of_lt hb')]
        exact (hf b hb).1
  done := by
    intro X hP hw hK hc i pins s σ H E I hf st hg
    subst hP hw hK
    obtain ⟨⟨old, he⟩, hit, n1, n2, n3⟩ := st
    obtain ⟨xs, hq, hx⟩ := hg
    obtain ⟨its, rv, p, hz⟩ := I.tuple hq
    obtain ⟨f0, f1, f2, f3, f4, f5⟩ := hf it (by simp)
    have hl := rv.length
    have hnone : its.toArray[i]? = none := by
      simp
      omega
    have D : Draws X.prog X.w X.A.in1 it [it, a] i (fun _ _ => False) (fun j h => j = i ∧ h.IsTupleIter it a i ∧ h.IsTuple a its.toArray) :=
      { live := fun j h ⟨_, q, _⟩ => let ⟨o, ho, _⟩ := q; ⟨o, ho⟩
        frame := fun j h h' ⟨e1, q1, q2⟩ k => ⟨e1, q1.at fun o e => k it (by simp) o e, q2.at fun o e => k a (by simp) o e⟩
        item := fun j s Q E hj ⟨e1, _⟩ _ => absurd e1 (Nat.ne_of_lt hj)
        done := fun s Q E ⟨_, q1, q2⟩ hE => wpAny_nextOf_tuple_end (I.ok.hd hc) q1 q2 hnone hE }
    exact wpAny_pyNext_enum_endD D he ⟨rfl, hit, p⟩ fun h' eb => ⟨rfl, I.turned (t' := s.toks) (fun b o hb q => eb b o hb q) f0 f1 f3 f4 f5⟩
  self := fun A i s Q E st h => let ⟨⟨_, he⟩, _⟩ := st; wpAny_pyIter_enum he h
def iEnumT (K : PySem.W.Frag) (ta : TA) : TI := fun σ H R => ta σ H fun vs H1 => ∃ a xs, vs = [.ref a] ∧ SqT K H1 a xs ∧ R (Iet K a) H1
theorem pi_enumT {X : Cx} {e : Expr} {ta : TA} {p pos tpos : Pos} {elts : List Expr} {kk : Nat} (hg : Gl X "enumerate") (hm : X.mg "enumerate" = none) (ha : PA X [e] ta) (hs : starEach [e] X.env = [(false, eval e X.env)] := by rfl) :
    PI X (.Tuple elts kk tpos) (.Call (.Name "enumerate" p) [e] [] pos) (iEnumT X.K ta) := by
  refine ⟨fun pins s σ H R I h => ?_⟩
  refine Call_ (ld_blt I hg hm boot_enumerate (PyProof.Rows.callWith_type1 (thn (ha.run pos pins s σ H _ I h) fun us s1 ⟨vs, H1, I1, r1, q1⟩ => ?_) hs rfl))
  obtain ⟨a, xs, ex, hq, q⟩ := q1
  subst ex
  cases r1 with
  | cons r rr =>
    cases rr
    cases r
    obtain ⟨its, rv, p', hz⟩ := I1.tuple hq
    have pt : s1.heap.IsTuple a its.toArray := p'
    have hal : a < s1.heap.objs.size := by
      obtain ⟨_, q, _⟩ := pt
      exact Heap.lt_size q
    refine enum_call1 (begins_tuple a its.toArray) pt fun h' he hit hk => wpAny_pyIter_enum he ?_
    have I2 : Inv X pins σ H1 { s1 with heap := h' } := I1.kept (t' := s1.toks) hk
    refine ⟨s1.heap.objs.size + 1, [s1.heap.objs.size + 1, s1.heap.objs.size], _, _, H1, rfl, I2, turn_enumT a (s1.heap.objs.size + 1) s1.heap.objs.size, ⟨⟨.none, he⟩, ⟨_, hit, rfl, rfl⟩, Nat.succ_ne_self _, Nat.ne_of_lt hal, Nat.ne_of_gt (Nat.lt_succ_of_lt hal)⟩, fun b hb => ?_, q⟩
    have hle : s1.heap.objs.size ≤ b := by
      rcases two hb with rfl | rfl
      · exact Nat.le_add_right _ _
      · exact Nat.le_refl _
    exact I1.fpOk hle (I1.hok.fresh hle)
theorem walk_enumT {K : PySem.W.Frag} {a : Addr} {xs : List V} : Walk (Iet K a) xs.length (fun H => SqT K H a xs) (YPair (fun i => some (.int (i : Nat))) (fun i => xs[i]?)) :=
  ⟨fun i _ hi q => ⟨xs, xs[i], q, by simp [hi]⟩, fun _ q => ⟨xs, q, Nat.le_refl _⟩, fun i H v H' _ q y => let ⟨T, x, h1, h2, h3, h4⟩ := y; ⟨T, .int (i : Nat), x, h1, h2, h3, rfl, h4 xs q⟩⟩
end Te
set_option Elab.async false
set_option linter.all false
set_option maxRecDepth 100000
set_option maxHeartbeats 8000000
namespace Hy
open PySem PySem.Spec PyProof.Rows L2 L2H Gd Rl Fx
/-! own errors over an own base, raised; the caught one asked; defs called where one is handled -/
section
variable {X : Cx} {pins : List (Addr × Obj)} {σ : L2.St} {H : Hp} {s : Shared} {B newId initId : String} {bmB : List Value} {C W fI : Addr} {f : Str} {k : Nat}
/-- an error is made: what stands then -/
theorem made_raw (Z : Root B newId initId bmB) (T : Err1 X.prog X.K X.mg newId initId bmB C W fI f) (hr : Room (k + 1) X.A) (I : Inv X pins σ H s) {y : V} {u : Value} (ry : RelV y u) {P : Value → Shared → Prop}
    (h : ∀ (h' : Heap) (tk' : Nat) (a d t1 : Addr) (mA : Str → Option Value), (∀ b o, s.heap.get? b = some o → h'.get? b = some o) → s.heap.objs.size ≤ a → s.heap.objs.size ≤ d → d ≠ a → h'.get? a = some (excD C t1 (some d)) → h'.Ns1 d mA →
      (∀ g, RelO (([(f, y)] : List (Str × V)).lookup g) (mA g)) → P (.ref a) { s with heap := h', toks := tk' }) :
    wpAny (model X.prog X.w) X.A (call (.ref C) [u] []) P X.xe s := by
  obtain ⟨nm, q, N, bs, sn, sub, ab, col, dd, k0, k1, k2, k3, k5, hC⟩ := T.t.cls
  obtain ⟨hp, g, dr, tk, os⟩ := s
  have kk : ∀ b o, hp.get? b = some o → ((hp.push (PySem.W.kdv_tup [u])).push (PySem.HandSPX.excO C hp.objs.size)).get? b = some o := fun b o e => Heap.get?_push_of_some _ (Heap.get?_push_of_some _ e)
  have hget : ((hp.push (PySem.W.kdv_tup [u])).push (PySem.HandSPX.excO C hp.objs.size)).get? (hp.objs.size + 1) = some (PySem.HandSPX.excO C hp.objs.size) := by heap_get
  have hz : [u].length ≤ sizeLine := by
    rw [sizeLine_eq]
    show 1 ≤ 16777216
    decide
  have nb : X.base.get? (hp.objs.size + 1) = none := by
    cases e : X.base.get? (hp.objs.size + 1) with
    | none => rfl
    | some o =>
      have z : hp.get? (hp.objs.size + 1) = some o := I.bk _ _ e
      exact absurd (Nat.lt_of_succ_lt (Heap.lt_size z)) (Nat.lt_irrefl _)
  refine wpAny_call (kw_call Z.fb (hT_of Z W) (I.kIn _ _ hC) (PySem.W.looks_findIn I.kIn T.t.iC) (fun self => PySem.W.bind_fn I.kIn self T.t.tI) hz ?_)
  refine init1 (s := ⟨(hp.push (PySem.W.kdv_tup [u])).push (PySem.HandSPX.excO C hp.objs.size), g, dr, tk, os⟩) Z T.t I.ok.mod (fun b o e => kk b o (I.bk b o e)) T.ff T.no T.n (.inl rfl) hget nb ?_ fun h' tk' dx t1 k1 e1 dn dne hn => ?_
  · rw [make_depth]
    have := hr.dp
    omega
  · have old : ∀ b o, hp.get? b = some o → h'.get? b = some o := fun b o e => k1 b o (Nat.ne_of_lt (Nat.lt_succ_of_lt (Heap.lt_size e))) (kk b o e)
    have sz : hp.objs.size ≤ dx := by
      have z : ((hp.push (PySem.W.kdv_tup [u])).push (PySem.HandSPX.excO C hp.objs.size)).objs.size ≤ dx := dn
      rw [Heap.size_push, Heap.size_push] at z
      omega
    exact ⟨rfl, h _ _ _ _ _ _ old (Nat.le_succ _) sz dne e1 hn (relO_put (fs := []) (mA := fun _ => none) ry fun g => True.intro)⟩
/-- such an error as one that is raised: it is let go, its dict stands -/
theorem made_mk (I : Inv X pins σ H s) (rz : Raises X (.ref C)) {h' : Heap} {tk' : Nat} {a d t1 : Addr} {mA : Str → Option Value} {fs : List (Str × V)} {Q : XK} (old : ∀ b o, s.heap.get? b = some o → h'.get? b = some o) (sa : s.heap.objs.size ≤ a) (sd : s.heap.objs.size ≤ d) (ne : d ≠ a)
    (ea : h'.get? a = some (excD C t1 (some d))) (hn : h'.Ns1 d mA) (rel : ∀ g, RelO (fs.lookup g) (mA g)) (q : ∀ d, H d = none → Q (.ref C) (some d) (upd H d (.xd fs))) : MkP X pins σ Q (.ref a) { s with heap := h', toks := tk' } := by
  obtain ⟨G, g1, g2⟩ := restrict h' fun b => decide (b ≠ a)
  have gk : ∀ b, b ≠ a → G.get? b = h'.get? b := fun b hb => g1 b (decide_eq_true hb)
  have ge : G.get? a = none := g2 a (by simp)
  have na : H a = none := I.hok.fresh sa
  have nd : H d = none := I.hok.fresh sd
  have kG : ∀ b o, G.get? b = some o → h'.get? b = some o := fun b o e => by
    rcases Classical.em (b = a) with z | z
    · rw [z, ge] at e
      cases e
    · exact (gk b z).symm.trans e
  have oG : ∀ b o, s.heap.get? b = some o → G.get? b = some o := fun b o e => (gk b (Nat.ne_of_lt (Nat.lt_of_lt_of_le (Heap.lt_size e) sa))).trans (old b o e)
  have J : Inv X pins σ (upd H d (.xd fs)) { s with heap := G, toks := tk' } := by
    refine I.laid (t' := tk') (a := d) (o := .xd fs) (h' := G) oG sd ?_
    obtain ⟨o, es, ep, e1, e2⟩ := hn
    exact ⟨mA, ⟨o, es, ep, (gk d ne).trans e1, e2⟩, rel⟩
  exact ⟨a, _, _, { s with heap := G, toks := tk' }, _, .ref C, some d, rfl, J, kG, ge, ea, ⟨rfl, rfl⟩, rfl, rfl, by rw [upd_ne (Ne.symm ne)]; exact na, rfl, I.bare, rz, q d nd⟩
theorem pmk_err {x : Str} {e : Expr} {te : TE} {p pos : Pos} (Z : Root B newId initId bmB) (T : Err1 X.prog X.K X.mg newId initId bmB C W fI f) (rz : Raises X (.ref C)) (hr : Room (k + 1) X.A) (gC : X.mg x = some (.ref C)) (hg : Gl X x) (he : PE X e te)
    (hs : starEach [e] X.env = (false, eval e X.env) :: starEach [] X.env := by rfl) (hdb : (x == ("__debug__" : Str)) = false := by decide) :
    PMk X (.Call (.Name x p) [e] [] pos) (fun σ H Q => te σ H fun y H1 => ∀ d, H1 d = none → Q (.ref C) (some d) (upd H1 d (.xd [(f, y)]))) := by
  intro pins s σ H Q I h
  refine wpAny_Call_Name_kw (ld_glob I hg gC ?_ hdb)
  refine PySem.W.callWith_K (h₀ := X.base) I.ok.mod.kin T.t.kC ?_ hs (by rfl)
  rw [hs]
  refine Calls.spliced_cons (thn (he.run pins s σ H _ I h) fun u s1 ⟨y, H1, I1, r1, q1⟩ => ?_)
  refine Calls.spliced_nil ⟨I1.kIn, ?_⟩
  exact made_raw Z T hr I1 r1 fun h' tk' a d t1 mA old sa sd ne ea hn rel => made_mk I1 rz old sa sd ne ea hn rel q1
end
/-! ### the caught error is asked -/
section
variable {X : Cx} {pins : List (Addr × Obj)} {σ : L2.St} {H : Hp} {s : Shared} {a C dd : Addr} {oe : Obj}
theorem inst_pin {fs : List (Str × V)} (I : Inv X pins σ H s) (hp : (a, oe) ∈ X.pn) (hz : Zc (.ref C) (some dd) oe) (hf : ∃ vs, oe.data = .fields vs) (ed : H dd = some (.xd fs)) :
    ∃ (od : Obj) (mA : Str → Option Value), PySem.W.InstAt s.heap a oe C (some od) ∧ (∀ n, PySem.W.lookIn n od = some (mA n)) ∧ ∀ g, RelO (fs.lookup g) (mA g) := by
  obtain ⟨ha, _⟩ := I.pin (a, oe) (List.mem_append_left _ hp)
  obtain ⟨vs, hd⟩ := hf
  have hx : ObjOk X.prog X.w H s.heap dd (.xd fs) := I.hok dd _ ed
  obtain ⟨mA, hns, hr⟩ := hx
  obtain ⟨od, ho, hl⟩ := lookIn_ns hns
  exact ⟨od, mA, ⟨ha, hz.1, by unfold PySem.W.notCls; rw [hd] <;> rfl, by rw [hz.2]; exact ho⟩, hl, hr⟩
/-- isinstance(e, c), e the error that is handled -/
def rIsP (K : PySem.W.Frag) (a C dd : Addr) : List V → Hp → VK → Prop := fun xs H Q => ∃ (c : V) (u : Value) (b : Bool) (fs : List (Str × V)), xs = [.ref a, c] ∧ ClsV c u ∧ H dd = some (.xd fs) ∧ PySem.W.kitOne K (.ref C) u = some b ∧ Q (.bl b) H
theorem call_isP (hp : (a, oe) ∈ X.pn) (hz : Zc (.ref C) (some dd) oe) (hf : ∃ vs, oe.data = .fields vs) (T : IsC X.K C) : CallR X (.builtin "isinstance") (rIsP X.K a C dd) := by
  intro pins s σ H xs us Q I r h
  obtain ⟨c, u, b, fs, rfl, kc, ed, e, q⟩ := h
  obtain ⟨u1, u2, rfl, r1, r2⟩ := vals2 r
  have e2 := kc.eq r2
  subst e2
  cases (show u1 = Value.ref a from r1)
  obtain ⟨od, mA, J, _⟩ := inst_pin I hp hz hf ed
  exact PySem.W.kia_one (PySem.W.kitx_exc (gt := none) T.cl T.ga T.gg T.ex T.ha T.hn T.ht T.hm) I.kIn J e (fun z => nomatch z) fun tk => ⟨.bl b, H, I.tok tk, rfl, q⟩
/-- e.f, e the error that is handled -/
def tXp (a dd : Addr) (f : Str) (te : TE) : TE := fun σ H Q => te σ H fun x H1 => ∃ (fs : List (Str × V)) (v : V), x = .ref a ∧ H1 dd = some (.xd fs) ∧ fs.lookup f = some v ∧ Q v H1
theorem pe_xp {e : Expr} {te : TE} {pos : Pos} {n : Str} (T : XfC X.K C) (hno : PySem.W.findIn X.K (.ref C) n = some none) (hp : (a, oe) ∈ X.pn) (hz : Zc (.ref C) (some dd) oe) (hf : ∃ vs, oe.data = .fields vs) (he : PE X e te)
    (hb : attributeBase e n X.env (eval e X.env) = eval e X.env := by rfl) : PE X (.Attribute e n pos) (tXp a dd n te) := by
  refine ⟨fun pins s σ H Q I h => ?_⟩
  refine attr_of hb (thn (he.run pins s σ H _ I h) fun u s1 hh => ?_)
  obtain ⟨x, H1, I1, rx, fs, v, ex, ed, l, q⟩ := hh
  subst ex
  obtain rfl : u = Value.ref a := rx
  obtain ⟨od, mA, J, hl, hr⟩ := inst_pin I1 hp hz hf ed
  obtain ⟨u, hu, ru⟩ := RelO.some_of (v := v) (o := mA n) (by rw [← l]; exact hr n)
  exact HandSPX.exc_get I1.kIn J T.ga T.gg T.exC (PySem.W.findObj_own T.hdC hno rfl (by rw [hl, hu])) (handed_of ru) ⟨v, H1, I1.tok _, ru, q⟩
end
/-! ### a def called where an error is handled -/
structure FnQ (P : Program) (w : World) (K : PySem.W.Frag) (mg : Str → Option Value) (base : Heap) (k : Nat) (f : Addr) (fd : FuncData) (ps : List Str) (sp : Addr → Value → Option Addr → Sp) : Prop where
  len : ∀ a c d vs H Q E, sp a c d vs H Q E → vs.length = ps.length
  run : ∀ (A : Around) (outer : List Env) (s : Shared) (H : Hp) (args : Args) (us : List Value) (vs : List V) (Q : VK) (E : XK) (a : Addr) (oe : Obj) (c : Value) (d : Option Addr), A.guards = some [] → RoomH k A → PinOk outer H s (a, oe) → Zc c d oe → (∃ fs, oe.data = .fields fs) →
    Env0 P w K mg base A outer s H → BindsTo s fd args (ps.zip us) → Vals vs us → sp a c d vs H Q E → codeAny (model P w) A (.call (.ref f) args) (CR CX0 outer P w H s Q E) s
section
variable {P : Program} {w : World} {K : PySem.W.Frag} {mg : Str → Option Value} {base : Heap} {x qual : Str} {params : Arguments} {body : List Stmt} {scope : Scope} {dvs : List V} {kws : List (Str × V)} {f : Addr} {fd : FuncData}
theorem okQ {N ps : List Str} {k : Nat} {sp : Addr → Value → Option Addr → Sp} (F : FunD K x qual params body scope dvs kws f fd) (S : FnScope N ps scope) (len : ∀ a c d vs H Q E, sp a c d vs H Q E → vs.length = ps.length)
    (hbody : ∀ (cdv : Value) (A : Around) (outer : List Env) (s : Shared) (H : Hp) (vs : List V) (Q : VK) (E : XK) (a : Addr) (oe : Obj) (c : Value) (d : Option Addr), (A.deeper (envOfC qual scope s.heap.objs.size f cdv)).guards = some [] → RoomH k (A.deeper (envOfC qual scope s.heap.objs.size f cdv)) → Zc c d oe → (∃ fs, oe.data = .fields fs) → sp a c d vs H Q E →
      ∃ t, PSs (cxH CX0 P w K mg base N qual scope f cdv A outer s H E (a, oe)) body t ∧ t { nx := fun _ H' => Q .non H', rt := Q } (L2.start N vs) H) : FnQ P w K mg base (k + 1) f fd ps sp := by
  obtain ⟨oc, od, dV, kV, doc, pm, an, cdv, ct, osl, rfl, lk, hcd, _, _⟩ := F.ex
  refine ⟨len, fun A outer s H args us vs Q E a oe c d hgd hr hpin hz hf e0 hb r hsp => ?_⟩
  have hlv := len _ _ _ _ _ _ _ hsp
  have KX : K.In s.heap := e0.mod.kin.keeps fun b o e => (e0.bs b o e).1
  have lim : s.heap.NoLimit := e0.mod.nolimit.keeps fun b o e => (e0.bs b o e).1
  have hkd : ∀ y ∈ ps.zip us, scope.names.lookup y.1 = some .local ∨ (scope.names.lookup y.1 = some .cell ∧ ((cellsFrom (s.heap.objs.size + 1) scope.names []).lookup y.1).isSome = true) := fun ⟨n, v⟩ hy => by
    rcases S.par n (List.of_mem_zip hy).1 with q | q
    · exact .inl q
    · exact .inr ⟨q, PySem.W.cellsFrom_some _ _ _ (.inl q)⟩
  refine codeAny_call_function hr.depth (KX _ _ lk) rfl S.co S.gen rfl (PySem.W.codeRec_of KX hcd) (hb _ _ _ _ ?_)
  refine wpAny_newFunctionEnv_cells S.kind hkd fun env he s1 z => ?_
  subst he
  refine ⟨lim.keeps z.toInCall.keep, codeAny_func ?_⟩
  obtain ⟨t, ht, hq⟩ := hbody cdv A outer s H vs Q E a oe c d (deeper_guards hgd) (hr.deeper _) hz hf hsp
  have I : Inv (cxH CX0 P w K mg base N qual scope f cdv A outer s H E (a, oe)) [] (L2.start N vs) H s1 := inv_startH S hpin e0 hlv r z
  refine wpAny_mono (ht.run [] s1 (L2.start N vs) H _ I hq) (fun fl s' hs => ?_) fun e s' hs => hs
  cases fl with
  | ret u =>
    obtain ⟨v, σ', H', J, rv, q⟩ := hs
    exact ⟨v, H', J.os, J.bare, J.base, J.hok, rv, q⟩
  | next =>
    obtain ⟨σ', H', J, q⟩ := hs
    exact ⟨V.non, H', J.os, J.bare, J.base, J.hok, rfl, q⟩
  | brk =>
    obtain ⟨_, _, _, q⟩ := hs
    exact q.elim
  | cont =>
    obtain ⟨_, _, _, q⟩ := hs
    exact q.elim
end
section
variable {X : Cx} {k : Nat} {f : Addr} {fd : FuncData} {ps : List Str} {sp : Addr → Value → Option Addr → Sp} {x : Str} {p pos : Pos} {e : Expr} {es : List Expr} {t : TA} {a : Addr} {oe : Obj} {c : Value} {d : Option Addr}
theorem pe_callQ (F : FnQ X.prog X.w X.K X.mg X.base k f fd ps sp) (hgd : X.A.guards = some []) (hr : RoomH k X.A) (hp : (a, oe) ∈ X.pn) (hz : Zc c d oe) (hf : ∃ vs, oe.data = .fields vs) (hg : Gl X x) (hm : X.mg x = some (.ref f)) (hk : PySem.W.keepIn X.K (.ref f) = true) (hb : Binds X.K fd ps [])
    (ha : PA X (e :: es) t) (hdb : (x == ("__debug__" : Str)) = false := by decide) (he : starEach (e :: es) X.env = (false, eval e X.env) :: starEach es X.env := by rfl) (hpl : (backTo pos (starEach es X.env)).any (·.1) = false := by rfl) :
    PE X (.Call (.Name x p) (e :: es) [] pos) (tCall (sp a c d) [] E0 t) := by
  refine ⟨fun pins s σ H Q I h => ?_⟩
  refine wpAny_Call_Name_kw (ld_glob I hg hm ?_ hdb)
  refine PySem.W.callWith_K (h₀ := X.base) I.ok.mod.kin hk (thn (ha.run pos pins s σ H _ I h) fun us s1 ⟨vs, H1, I1, r, q⟩ => ⟨I1.kIn, ?_⟩) he hpl
  have r2 : Vals (vs ++ []) (us ++ []) := r.append .nil
  have hl : (us ++ []).length = ps.length := by
    rw [← r2.length]
    exact F.len _ _ _ _ _ _ _ q
  have P1 := I1.pin (a, oe) (List.mem_append_left _ hp)
  have hpin : PinOk X.stack H1 s1 (a, oe) := ⟨P1.1, P1.2.1, fun hm => (List.mem_cons.mp (I1.stkSub a hm)).elim P1.2.2.1 P1.2.2.2.1, P1.2.2.2.2⟩
  refine wpAny_call (codeAny_mono (F.run X.A X.stack s1 H1 ⟨us, []⟩ (us ++ []) (vs ++ []) Q E0 a oe c d hgd hr hpin hz hf I1.env0 (hb s1 us I1.kIn hl) r2 q) fun r s' hq => ?_)
  cases r with
  | error er => exact hq.elim
  | ok fl =>
    cases fl with
    | ret u => exact I1.after hq
    | next => exact hq.elim
    | brk => exact hq.elim
    | cont => exact hq.elim
end
end Hy
set_option Elab.async false
set_option linter.all false
set_option maxRecDepth 100000
set_option maxHeartbeats 8000000
namespace Pg
open PySem PySem.Spec PyProof.Rows L2 Gd Rl Te Vd Fx
def top (i : Nat) : Stmt := PySem.Challenge.pw_fallranks_k21_whole_least_by_taking_vari.main.body.getD i (.Pass ⟨0, 0, 0, 0⟩)
abbrev FnP (K : PySem.W.Frag) (x : Str) (st : Stmt) (f : Addr) (fd : FuncData) : Prop := FunD K x x (defArgs st) (defBody st) (defScope st) [] [] f fd
abbrev sInt : Stmt := top 8
abbrev sInts : Stmt := top 9
abbrev sChk : Stmt := top 13
abbrev sAnyF : Stmt := top 14
def intB : PyData → Bool
  | .int _ => true
  | _ => false
def intsB (n : Nat) : PyData → Bool
  | .tuple ds => decide (ds.length = n) && ds.all intB
  | _ => false
def fmB (d : PyData) : Bool := intsB 2 d || (intsB 3 d || intsB 4 d)
/-- no row is too long -/
def Wd (d : PyData) : Prop := ∀ ds, d = .tuple ds → ds.length ≤ 1000
structure Mo (mg : Str → Option Value) : Prop where
  isi : mg "isinstance" = none
  int : mg "int" = none
  bool : mg "bool" = none
  tuple : mg "tuple" = none
  len : mg "len" = none
  all : mg "all" = none
  any : mg "any" = none
  enum : mg "enumerate" = none
  range : mg "range" = none
  sum : mg "sum" = none
  zip : mg "zip" = none
  mvar : ∃ t, mg "MOST_VARIABLES" = some (.int 3 t)
  mfor : ∃ t, mg "MOST_FORMS" = some (.int 9 t)
def spJ (K : PySem.W.Frag) (B : PyData → Bool) : Sp := fun vs H Q _ => ∃ (v : V) (d : PyData), vs = [v] ∧ Vp K H v d ∧ Wd d ∧ ∀ H', Same H H' → Q (.bl (B d)) H'
def spJ2 (K : PySem.W.Frag) (B : Nat → PyData → Bool) : Sp := fun vs H Q _ => ∃ (v : V) (d : PyData) (m : Nat), vs = [v, .int m] ∧ Vp K H v d ∧ Wd d ∧ ∀ H', Same H H' → Q (.bl (B m d)) H'
theorem getP_at {ds : List PyData} {i : Nat} {d : PyData} (e : ds[i]? = some d) : ds.getD i .none = d := by
  rw [List.getD_eq_getElem?_getD, e]
  rfl
theorem all_getP (l : List PyData) (p : PyData → Bool) : ((List.range l.length).map fun i => p (l.getD i .none)).all id = l.all p := by
  have e : ((List.range l.length).map fun i => p (l.getD i .none)) = l.map p := by
    apply List.ext_getElem
    · simp
    · intro i h1 h2
      simp only [List.length_map, List.length_range] at h1
      simp [List.getD_eq_getElem?_getD, List.getElem?_eq_getElem h1]
  rw [e, List.all_map]
  rfl
theorem all_int : ∀ {ds : List PyData}, ds.all intB = true → ∃ xs : List Int, ds = xs.map PyData.int
  | [], _ => ⟨[], rfl⟩
  | d :: ds, h => by
    rw [List.all_cons, Bool.and_eq_true] at h
    obtain ⟨xs, rfl⟩ := all_int h.2
    cases d with
    | int i => exact ⟨i :: xs, rfl⟩
    | bool b => exact absurd h.1 (by intro z; cases z)
    | none => exact absurd h.1 (by intro z; cases z)
    | str z => exact absurd h.1 (by intro z; cases z)
    | list ds => exact absurd h.1 (by intro z; cases z)
    | tuple ds => exact absurd h.1 (by intro z; cases z)
    | dict ds => exact absurd h.1 (by intro z; cases z)
def fD (xs : List Int) : PyData := .tuple (xs.map PyData.int)
theorem ints_is {m : Nat} {d : PyData} (h : intsB m d = true) : ∃ xs : List Int, d = fD xs ∧ xs.length = m := by
  cases d with
  | tuple ds =>
    have h2 : (decide (ds.length = m) && ds.all intB) = true := h
    obtain ⟨z1, z2⟩ := Bool.and_eq_true_iff.mp h2
    obtain ⟨xs, rfl⟩ := all_int z2
    have z3 := of_decide_eq_true z1
    rw [List.length_map] at z3
    exact ⟨xs, rfl, z3⟩
  | str z => cases h
  | int i => cases h
  | bool b => cases h
  | none => cases h
  | list ds => cases h
  | dict ds => cases h
theorem fm_is {d : PyData} (h : fmB d = true) : ∃ xs : List Int, d = fD xs ∧ 2 ≤ xs.length ∧ xs.length ≤ 4 := by
  unfold fmB at h
  rcases Bool.or_eq_true_iff.mp h with h | h
  · obtain ⟨xs, rfl, e⟩ := ints_is h
    exact ⟨xs, rfl, by omega, by omega⟩
  rcases Bool.or_eq_true_iff.mp h with h | h
  · obtain ⟨xs, rfl, e⟩ := ints_is h
    exact ⟨xs, rfl, by omega, by omega⟩
  · obtain ⟨xs, rfl, e⟩ := ints_is h
    exact ⟨xs, rfl, by omega, by omega⟩
theorem vp_ints {K : PySem.W.Frag} {H : Hp} : ∀ {xs : List V} {ns : List Int}, VpAll K H xs (ns.map PyData.int) → xs = ns.map V.int
  | _, [], h => by cases h; rfl
  | _, n :: ns, h => by
    cases h with
    | cons h1 h2 =>
      cases h1
      rw [vp_ints h2]
      rfl
theorem vp_form {K : PySem.W.Frag} {H : Hp} {v : V} {ns : List Int} (h : Vp K H v (fD ns)) : ∃ a, v = .ref a ∧ SqT K H a (ns.map V.int) := by
  obtain ⟨a, xs, rfl, hs, hx⟩ := vp_tup h
  rw [vp_ints hx] at hs
  exact ⟨a, rfl, hs⟩
section
variable {P : Program} {w : World} {K : PySem.W.Frag} {mg : Str → Option Value} {base : Heap} {f : Addr} {fd : FuncData}
theorem scInt : FnScope ["value"] ["value"] (defScope sInt) := ⟨rfl, rfl, rfl, by decide +kernel, rfl, by decide +kernel, by decide +kernel⟩
theorem ok_int (F : FnP K "is_integer" sInt f fd) (T : Mo mg) : FnOk P w K mg base CX0 1 f fd ["value"] (spJ K intB) := by
  refine F.ok scInt (fun vs H Q E h => ?_) (fun cdv A outer s H vs Q E hr h => ?_)
  · obtain ⟨v, d, rfl, _⟩ := h
    rfl
  · obtain ⟨v, d, rfl, hd, ho, k⟩ := h
    refine ⟨_, PSs.nox <| pss_one (ps_ret (pe_and (pe_callB (call_isV (T := "int")) (by rfl) T.isi boot_isinstance (pa_cons (pv 0) (pa_cons (pe_bltn (v := .ty "int") (by rfl) T.int (by decide +kernel) rfl) pa_nil)))
      (pe_one (pe_not (pe_callB (call_isV (T := "bool")) (by rfl) T.isi boot_isinstance (pa_cons (pv 0) (pa_cons (pe_bltn (v := .ty "bool") (by rfl) T.bool (by decide +kernel) rfl) pa_nil))))))), ?_⟩
    refine ⟨_, rfl, v, d, _, rfl, hd, kit_int d, _, rfl, ?_⟩
    have k0 := k H (Same.refl H)
    cases d with
    | int i => exact ⟨_, rfl, v, _, _, rfl, hd, kit_bool _, _, rfl, k0⟩
    | bool b => exact ⟨_, rfl, v, _, _, rfl, hd, kit_bool _, _, rfl, k0⟩
    | none => exact k0
    | str z => exact k0
    | list ds => exact k0
    | tuple ds => exact k0
    | dict ds => exact k0
theorem scInts : FnScope ["value", "many", "number"] ["value", "many"] (defScope sInts) := ⟨rfl, rfl, rfl, by decide +kernel, rfl, by decide +kernel, by decide +kernel⟩
/-- no element of a row is a long row -/
def Wd2 (d : PyData) : Prop := ∀ ds, d = .tuple ds → ds.length ≤ 1000 ∧ ∀ x ∈ ds, Wd x
def spJ3 (K : PySem.W.Frag) (B : Nat → PyData → Bool) : Sp := fun vs H Q _ => ∃ (v : V) (d : PyData) (m : Nat), vs = [v, .int m] ∧ Vp K H v d ∧ Wd2 d ∧ ∀ H', Same H H' → Q (.bl (B m d)) H'
theorem ok_areints {fI : Addr} {dI : FuncData} (F : FnP K "are_integers" sInts f fd) (T : Mo mg) (FI : FnP K "is_integer" sInt fI dI) (gI : mg "is_integer" = some (.ref fI)) : FnOk P w K mg base CX0 2 f fd ["value", "many"] (spJ3 K intsB) := by
  have GI : FnOk P w K mg base CX0 1 fI dI ["value"] (spJ K intB) := ok_int FI T
  have bI : Binds K dI ["value"] [] := FI.bindsN fun _ _ _ _ _ _ us hl => match us, hl with | [_], _ => rfl
  refine F.ok scInts (fun vs H Q E h => ?_) (fun cdv A outer s H vs Q E hr h => ?_)
  · obtain ⟨v, d, m, rfl, _⟩ := h
    rfl
  · obtain ⟨v, d, m, rfl, hd, ho, k⟩ := h
    refine ⟨_, PSs.nox <| pss_one (ps_ret (pe_and (pe_callB (call_isV (T := "tuple")) (by rfl) T.isi boot_isinstance (pa_cons (pv 0) (pa_cons (pe_bltn (v := .ty "tuple") (by rfl) T.tuple (by decide +kernel) rfl) pa_nil)))
      (pe_and (pe_cmpR op_eq (pe_callB call_len (by rfl) T.len PySem.boot_len (pa_cons (pv 0) pa_nil)) (pv 1) (nomark _))
      (pe_one (pe_callB (cr_all rfl) (by rfl) T.all (by decide +kernel) (pa_cons (pe_lc (own := [("number", 2)]) (g := gName 2) (tt := tYes) rfl scInts.nd (pi_tup (pv 0)) (blkOk_by (N := ["value", "many", "number"]) (sc := defScope sInts) (by decide +kernel)) (fun _ _ _ _ _ => pg_name (i := 2) scInts.nd rfl (Or.inl rfl)) (fun _ _ _ _ _ => pts_nil)
          (fun _ _ _ _ _ => pe_call GI hr (by rfl) gI FI.kp bI .nil pass0 (pa_cons (pv 2) pa_nil))) pa_nil)))))), ?_⟩
    refine ⟨_, rfl, v, d, _, rfl, hd, kit_tuple d, _, rfl, ?_⟩
    have k0 := k H (Same.refl H)
    cases d with
    | tuple ds =>
      obtain ⟨a, xs, rfl, hs, ha⟩ := vp_tup hd
      obtain ⟨hl, hk⟩ := ho ds rfl
      have lx := vp_len ha
      refine ⟨_, rfl, _, xs.length, rfl, .inr ⟨_, hs, rfl⟩, _, rfl, rfl, _, rfl, ?_⟩
      by_cases h1 : ds.length = m
      · have hB : intsB m (.tuple ds) = ds.all intB := by
          show (decide (ds.length = m) && ds.all intB) = _
          rw [decide_eq_true h1, Bool.true_and]
        rw [show decide (V.int ((xs.length : Nat) : Int) = V.int (m : Int)) = true from decide_eq_true (by rw [lx, h1])]
        refine ⟨_, rfl, a, rfl, ⟨_, hs⟩, lcR (walk_tup (xs := xs)) (n1 := by omega) (fun H' s' => Same.seqT s' hs) (fun i y _ => y = .bl (intB (ds.getD i .none))) (fun _ _ _ _ _ e => e) ?_ ?_⟩
        · rintro D acc i x Ha Hb K2 hi s nD hD ⟨rfl, ex⟩ kk
          obtain ⟨d, ed, hx⟩ := vp_at ha ex
          exact ⟨rfl, _, rfl, x, d, rfl, vp_same s hx, hk d (List.mem_of_getElem? ed), fun Hc sc => kk _ _ sc (by rw [getP_at ed])⟩
        · rintro D Hb ys nw hlen he
          have ey : ys = ((List.range ds.length).map fun i => intB (ds.getD i .none)).map V.bl := by
            rw [List.map_map]
            exact list_of (by rw [hlen, lx]) he
          refine ⟨D, _, rfl, by rw [← ey]; exact SqL.of nw.2.1, ?_⟩
          rw [all_getP, ← hB]
          exact k Hb nw.2.2
      · have hB : intsB m (.tuple ds) = false := by
          show (decide (ds.length = m) && ds.all intB) = _
          rw [decide_eq_false h1, Bool.false_and]
        rw [show decide (V.int ((xs.length : Nat) : Int) = V.int (m : Int)) = false from decide_eq_false fun e => h1 (by
          have := V.int.inj e
          omega)]
        rw [hB] at k0
        exact k0
    | int i => exact k0
    | bool b => exact k0
    | none => exact k0
    | list ds => exact k0
    | str z => exact k0
    | dict ds => exact k0
abbrev nAnyF : List Str := ["value", "many"]
def spAF (K : PySem.W.Frag) : Sp := fun vs H Q _ => ∃ (v : V) (d : PyData), vs = [v] ∧ Vp K H v d ∧ Wd2 d ∧ ∀ H', Same H H' → Q (.bl (fmB d)) H'
theorem scAnyF : FnScope nAnyF ["value"] (defScope sAnyF) := ⟨rfl, rfl, rfl, by decide +kernel, rfl, by decide +kernel, by decide +kernel⟩
theorem ok_anyf {fI fM : Addr} {dI dM : FuncData} (F : FnP K "_is_any_form" sAnyF f fd) (T : Mo mg) (FI : FnP K "is_integer" sInt fI dI) (gI : mg "is_integer" = some (.ref fI)) (FM : FnP K "are_integers" sInts fM dM) (gM : mg "are_integers" = some (.ref fM)) : FnOk P w K mg base CX0 3 f fd ["value"] (spAF K) := by
  have GM : FnOk P w K mg base CX0 2 fM dM ["value", "many"] (spJ3 K intsB) := ok_areints FM T FI gI
  have bM : Binds K dM ["value", "many"] [] := FM.bindsN fun _ _ _ _ _ _ us hl => match us, hl with | [_, _], _ => rfl
  obtain ⟨t1, c1⟩ := T.mvar
  refine F.ok scAnyF (fun vs H Q E h => ?_) (fun cdv A outer s H vs Q E hr h => ?_)
  · obtain ⟨v, d, rfl, _⟩ := h
    rfl
  · obtain ⟨v, d, rfl, hd, ho, k⟩ := h
    refine ⟨_, PSs.nox <| pss_one (ps_ret (pe_callB (cr_any rfl) (by rfl) T.any (by decide +kernel) (pa_cons (pe_lc (own := [("many", 1)]) (g := gName 1) (tt := tYes) rfl scAnyF.nd (pi_range2 (by rfl) T.range (pa_cons pe_int (pa_cons (pe_op op_add (pe_glob (v := .int 3) (by rfl) c1 ⟨_, rfl⟩) pe_int) pa_nil))) (blkOk_by (N := nAnyF) (sc := defScope sAnyF) (by decide +kernel)) (fun _ _ _ _ _ => pg_name (i := 1) scAnyF.nd rfl (Or.inl rfl)) (fun _ _ _ _ _ => pts_nil)
          (fun _ _ _ _ _ => pe_call GM hr (by rfl) gM FM.kp bM .nil pass0 (pa_cons (pv 0) (pa_cons (pe_op op_add (pv 1) pe_int) pa_nil)))) pa_nil))), ?_⟩
    refine ⟨_, _, rfl, rfl, 1, 4, rfl, ⟨by decide, by decide, by decide, by decide⟩, lcR (walk_range (lo := 1) (n := 3)) (n1 := by decide) (fun H' s' => trivial) (fun i y _ => y = .bl (intsB (i + 2) d)) (fun _ _ _ _ _ e => e) ?_ ?_⟩
    · rintro D acc i x Ha Hb K2 hi s nD hD ⟨rfl, rfl⟩ kk
      refine ⟨rfl, _, rfl, _, rfl, _, _, rfl, rfl, v, d, i + 2, (by show [v, V.int ((1 : Int) + (i : Nat) + 1)] = _; rw [show (1 : Int) + (i : Nat) + 1 = ((i + 2 : Nat) : Int) by omega]), vp_same s hd, ho, fun Hc sc => kk _ _ sc rfl⟩
    · rintro D Hb ys nw hlen he
      have ey : ys = ((List.range 3).map fun i => intsB (i + 2) d).map V.bl := by
        rw [List.map_map]
        exact list_of hlen he
      refine ⟨D, _, rfl, by rw [← ey]; exact SqL.of nw.2.1, ?_⟩
      have e : (((List.range 3).map fun i => intsB (i + 2) d).any id) = fmB d := by
        unfold fmB
        simp [List.range_succ]
      rw [e]
      exact k Hb nw.2.2
end
end Pg
set_option Elab.async false
set_option linter.all false
set_option maxRecDepth 100000
set_option maxHeartbeats 8000000
namespace Hz
open PySem PySem.Spec PyProof.Rows L2 Fx
/-! what is looked at of a class of errors over an own base, with its own __init__ -/
def wn (r : Nat) : Str := (["WrongValue", "WrongName", "NotPossible"] : List Str).getD r ""
def bn (r : Nat) : String := (["ValueError", "LookupError", "ArithmeticError"] : List String).getD r ""
def bmOf (r : Nat) : List Value := [.type (bn r), .type "Exception", .type "BaseException", .type "object"]
def newOf (r : Nat) : String := (["ValueError.__new__", "LookupError.__new__", "ArithmeticError.__new__"] : List String).getD r ""
def initOf (r : Nat) : String := (["ValueError.__init__", "LookupError.__init__", "ArithmeticError.__init__"] : List String).getD r ""
/-- the text of a one-parameter __init__ -/
def Txt1 (st : Stmt) (f : Str) : Prop := ∃ (msg : Str) (kM : Nat) (p1 p2 q1 q2 q3 q4 q5 q6 r1 r2 r3 r4 : Pos), defArgs st = iA1 f p1 p2 ∧ defBody st = [iSup msg kM q1 q2 q3 q4 q5 q6, iSet f r1 r2 r3 r4] ∧ defScope st = iS1 f ∧ (q3.endLine == q5.line) = true
def clsB (K : PySem.W.Frag) (C W : Addr) (bm : List Value) (nw : String) : Bool := match K.lookup C with
  | some ⟨.type "type", _, .cls cd, sl⟩ => (match sl.toList with
    | [_, _, _, _, some (.builtin n), _] => decide (cd.mro = .ref C :: .ref W :: bm) && (n == nw && (!cd.hasDel && cd.hasDict))
    | _ => false)
  | _ => false
theorem clsB_ok {K : PySem.W.Frag} {C W : Addr} {bm : List Value} {nw : String} (h : clsB K C W bm nw = true) : ∃ nm q N bs sn sub ab col dd k0 k1 k2 k3 k5, K.lookup C = some (excClassObj nm q C N bs (.ref W :: bm) true sn sub ab col dd k0 k1 k2 k3 k5 nw) := by
  unfold clsB at h
  split at h
  · rename_i dd cd sl ho
    split at h
    · rename_i k0 k1 k2 k3 n k5 hs
      obtain ⟨h1, h⟩ := Bool.and_eq_true_iff.mp h
      obtain ⟨h2, h⟩ := Bool.and_eq_true_iff.mp h
      obtain ⟨h3, h4⟩ := Bool.and_eq_true_iff.mp h
      have e1 := of_decide_eq_true h1
      have e2 := eq_of_beq h2
      obtain ⟨nm, bs, mro, ns, qn, hd, sn, sub, ab, col, del⟩ := cd
      dsimp only at e1 h3 h4
      have e3 : del = false := by simpa using h3
      subst e1 e2 e3 h4
      obtain ⟨l⟩ := sl
      have hs' : l = [k0, k1, k2, k3, some (.builtin n), k5] := hs
      subst hs'
      exact ⟨nm, qn, ns, bs, sn, sub, ab, col, dd, k0, k1, k2, k3, k5, ho⟩
    · cases h
  · cases h
abbrev eC (K : PySem.W.Frag) (x : Str) : Addr := He.ga K x
abbrev eW (K : PySem.W.Frag) (r : Nat) : Addr := He.ga K (wn r)
abbrev eI (K : PySem.W.Frag) (x : Str) : Addr := He.ma K (eC K x) "__init__"
/-- what isinstance asks of a class -/
def isB (K : PySem.W.Frag) (C : Addr) : Bool := (PySem.W.clsIn K C).isSome && (He.eqO (PySem.W.findIn K (.ref C) "__getattribute__") (some (some (.builtin "BaseException.__getattribute__"))) && (He.eqO (PySem.W.findIn K (.ref C) "__getattr__") (some none) && (decide (PySem.W.subIn K (.ref C) (.type "BaseException") = some true) &&
  (He.eqO (PySem.W.findIn K (.ref C) "__class__") (some (some (.builtin "object.__class__"))) && (He.eqO (PySem.W.specialIn K (.builtin "object.__class__") "__get__") (some (some (.builtin "getset_descriptor.__get__"))) && (decide (PySem.W.takesIn K (.builtin "object.__class__") = some true) && decide (PySem.W.mroIn K C (.type "object") = some true)))))))
theorem isB_ok {K : PySem.W.Frag} {C : Addr} (h : isB K C = true) : IsC K C := by
  obtain ⟨h1, h⟩ := Bool.and_eq_true_iff.mp h
  obtain ⟨h2, h⟩ := Bool.and_eq_true_iff.mp h
  obtain ⟨h3, h⟩ := Bool.and_eq_true_iff.mp h
  obtain ⟨h4, h⟩ := Bool.and_eq_true_iff.mp h
  obtain ⟨h5, h⟩ := Bool.and_eq_true_iff.mp h
  obtain ⟨h6, h⟩ := Bool.and_eq_true_iff.mp h
  obtain ⟨h7, h8⟩ := Bool.and_eq_true_iff.mp h
  exact ⟨h1, He.eqO_ok h2, He.eqO_ok h3, of_decide_eq_true h4, He.eqO_ok h5, He.eqO_ok h6, of_decide_eq_true h7, of_decide_eq_true h8⟩
/-- the function of an __init__ -/
def fnB (K : PySem.W.Frag) (C fI : Addr) : Bool := match K.lookup fI with
  | some ⟨_, _, .func fd, _⟩ => (match fd.code, fd.closure with
    | .ref cda, [(_, cc)] => PySem.W.codeIn K (.ref cda) fd.qualname && ((match K.lookup cda with
        | some ⟨_, _, .fields vs, _⟩ => (match (vs[2]? : Option Value) with
          | some (.str file _) => file == ("/claim/cut.py" : Str)
          | _ => false)
        | _ => false) && (match K.lookup cc with
        | some ⟨_, _, .cell (some (.ref c)), _⟩ => decide (c = C)
        | _ => false))
    | _, _ => false)
  | _ => false
abbrev FnI : Type := Option (Str × Arguments × FuncBody × Scope × Addr × List Str × Value × Addr)
def fnI (K : PySem.W.Frag) (fI : Addr) : FnI := match K.lookup fI with
  | some ⟨_, _, .func fd, _⟩ => some (fd.name, fd.params, fd.body, fd.scope, fd.globals, fd.closure.map (·.1), fd.defaults, fd.builtins)
  | _ => none
def fnV (st : Stmt) : FnI := some ("__init__", defArgs st, .stmts (defBody st), defScope st, mainGlobals, ["__class__"], .none, builtinsNs)
theorem fn_ok {K : PySem.W.Frag} {C fI : Addr} {st : Stmt} (e : fnI K fI = fnV st) (b : fnB K C fI = true) : ∃ (oc : Value) (od : Option Addr) (qual : Str) (kV doc pm : Value) (an : Option Addr) (cda cc : Addr) (ct : Value) (osl : Array (Option Value)) (vs : Array Value) (file : Str) (tf : Tok) (ccl cl : Value) (cdd cld : Option Addr) (ccs csl : Array (Option Value)),
    K.lookup fI = some ⟨oc, od, .func (PySem.W.ksFn "__init__" qual (defArgs st) (defBody st) (defScope st) .none kV doc pm an (.ref cda) ct cc), osl⟩ ∧ PySem.W.codeIn K (.ref cda) qual = true ∧ K.lookup cda = some ⟨ccl, cdd, .fields vs, ccs⟩ ∧ vs[2]? = some (.str file tf) ∧ file = "/claim/cut.py" ∧ K.lookup cc = some ⟨cl, cld, .cell (some (.ref C)), csl⟩ := by
  unfold fnI at e
  unfold fnB at b
  split at e
  · rename_i oc od fd osl ho
    rw [ho] at b
    dsimp only at b
    split at b
    · rename_i cda y cc h1 h2
      obtain ⟨b1, b⟩ := Bool.and_eq_true_iff.mp b
      obtain ⟨b2, b3⟩ := Bool.and_eq_true_iff.mp b
      split at b2
      · rename_i ccl cdd vs ccs h3
        split at b2
        · rename_i file tf h4
          split at b3
          · rename_i cl cld c csl h5
            have e5 := of_decide_eq_true b3
            subst e5
            obtain ⟨n1, n2, n3, n4, n5, n6, n7, n8, n9, n10, n11, n12, n13, n14, n15⟩ := fd
            dsimp only at h1 h2 b1
            subst h1 h2
            unfold fnV at e
            simp only [Option.some.injEq, Prod.mk.injEq, List.map_cons, List.map_nil, List.cons.injEq, and_true] at e
            obtain ⟨rfl, rfl, rfl, rfl, rfl, rfl, rfl, rfl⟩ := e
            exact ⟨oc, od, n2, n9, n10, n11, n12, cda, cc, n14, osl, vs, file, tf, ccl, cl, cdd, cld, ccs, csl, ho, b1, h3, h4, eq_of_beq b2, h5⟩
          · cases b3
        · cases b2
      · cases b2
    · cases b
  · cases e
/-- all of a class of errors: its name, its field, its base -/
def kindB (K : PySem.W.Frag) (C : Addr) (r : Nat) : Bool := (List.range 3).all fun j => decide (PySem.W.kitOne K (.ref C) (.ref (eW K j)) = some (r == j)) && decide (PySem.W.kitOne K (.ref C) (.type (bn j)) = some (r == j))
def errB (K : PySem.W.Frag) (x f : Str) (r : Nat) : Bool := clsB K (eC K x) (eW K r) (bmOf r) (newOf r) && (He.eqO (PySem.W.findIn K (.ref (eC K x)) "__setattr__") (some (some (.builtin "object.__setattr__"))) && (He.eqO (PySem.W.findIn K (.ref (eC K x)) "__init__") (some (some (.ref (eI K x)))) &&
  (decide (PySem.W.typeIn K (.ref (eI K x)) = some (.type "function")) && (PySem.W.keepIn K (.ref (eC K x)) && (He.eqO (PySem.W.alongIn K "__init__" (.ref (eW K r) :: bmOf r)) (some (some (.builtin (initOf r)))) &&
  (He.eqO (PySem.W.findIn K (.ref (eC K x)) f) (some none) && (isB K (eC K x) && (PySem.W.hasDictIn K (eC K x) && (kindB K (eC K x) r &&
  (He.eqO (PySem.W.nsIn K mainGlobals x) (some (some (.ref (eC K x)))) && (fnB K (eC K x) (eI K x) && (decide (PySem.W.typeIn K (.ref (eC K x)) = some (.type "type")) && (decide (PySem.W.exmAny K (.ref (eC K x)) [.ref (eW K 0), .ref (eW K 1), .ref (eW K 2)] = some true) && He.eqO (PySem.W.nsIn K cStatics "thirdparty.any") (some none))))))))))))))
/-- the bases are where they are said to be -/
def baseB (K : PySem.W.Frag) : Bool := (List.range 3).all fun r => He.eqO (PySem.W.nsIn K mainGlobals (wn r)) (some (some (.ref (eW K r))))
structure Err (P : Program) (K : PySem.W.Frag) (mg : Str → Option Value) (x f : Str) (r : Nat) : Prop where
  e : Err1 P K mg (newOf r) (initOf r) (bmOf r) (eC K x) (eW K r) (eI K x) f
  i : IsC K (eC K x)
  xf : XfC K (eC K x)
  g : mg x = some (.ref (eC K x))
  ty : PySem.W.typeIn K (.ref (eC K x)) = some (.type "type")
  any : PySem.W.exmAny K (.ref (eC K x)) [.ref (eW K 0), .ref (eW K 1), .ref (eW K 2)] = some true
  own : ∀ j, j < 3 → PySem.W.kitOne K (.ref (eC K x)) (.ref (eW K j)) = some (r == j)
  bas : ∀ j, j < 3 → PySem.W.kitOne K (.ref (eC K x)) (.type (bn j)) = some (r == j)
section
variable {P : Program} {K : PySem.W.Frag} {mg : Str → Option Value} {h : Heap}
theorem err_ok {x f : Str} {r : Nat} {st : Stmt} (hP : (P.main.file == ("/claim/cut.py" : Str)) = true) (hS : (P.main.scope.names.lookup ("super" : Str)).isSome = false) (X : K.In h) (G : h.Ns mainGlobals mg) (su : mg "super" = none) (ff : f = "given" ∨ f = "index")
    (b : errB K x f r = true) (v : fnI K (eI K x) = fnV st) (t : Txt1 st f) : Err P K mg x f r := by
  obtain ⟨z1, z⟩ := Bool.and_eq_true_iff.mp b
  obtain ⟨z2, z⟩ := Bool.and_eq_true_iff.mp z
  obtain ⟨z3, z⟩ := Bool.and_eq_true_iff.mp z
  obtain ⟨z4, z⟩ := Bool.and_eq_true_iff.mp z
  obtain ⟨z5, z⟩ := Bool.and_eq_true_iff.mp z
  obtain ⟨z6, z⟩ := Bool.and_eq_true_iff.mp z
  obtain ⟨z7, z⟩ := Bool.and_eq_true_iff.mp z
  obtain ⟨z8, z⟩ := Bool.and_eq_true_iff.mp z
  obtain ⟨z9, z⟩ := Bool.and_eq_true_iff.mp z
  obtain ⟨z10, z⟩ := Bool.and_eq_true_iff.mp z
  obtain ⟨z11, z⟩ := Bool.and_eq_true_iff.mp z
  obtain ⟨z12, z⟩ := Bool.and_eq_true_iff.mp z
  obtain ⟨z13, z⟩ := Bool.and_eq_true_iff.mp z
  obtain ⟨z14, z15⟩ := Bool.and_eq_true_iff.mp z
  have kit : ∀ j, j < 3 → PySem.W.kitOne K (.ref (eC K x)) (.ref (eW K j)) = some (r == j) ∧ PySem.W.kitOne K (.ref (eC K x)) (.type (bn j)) = some (r == j) := fun j hj => by
    obtain ⟨q1, q2⟩ := Bool.and_eq_true_iff.mp (List.all_eq_true.mp z10 j (List.mem_range.mpr hj))
    exact ⟨of_decide_eq_true q1, of_decide_eq_true q2⟩
  have ic := isB_ok z8
  obtain ⟨oc, od, qual, kV, doc, pm, an, cda, cc, ct, osl, vs, file, tf, ccl, cl, cdd, cld, ccs, csl, e1, e2, e3, e4, rfl, e6⟩ := fn_ok v z12
  obtain ⟨msg, kM, p1, p2, q1, q2, q3, q4, q5, q6, r1, r2, r3, r4, t1, t2, t3, t4⟩ := t
  rw [t1, t2, t3] at e1
  exact ⟨⟨⟨clsB_ok z1, He.eqO_ok z2, He.eqO_ok z3, of_decide_eq_true z4, z5, He.eqO_ok z6, He.eqO_ok z15, su⟩, ⟨oc, od, qual, msg, kM, kV, doc, pm, an, cda, cc, ct, osl, p1, p2, q1, q2, q3, q4, q5, q6, r1, r2, r3, r4, vs, _, tf, ccl, cl, cdd, cld, ccs, csl, e1, e2, e3, e4, hP, e6, hS, t4⟩, He.eqO_ok z7, ff⟩,
    ic, ⟨ic.ga, ic.gg, ic.ex, z9⟩, PySem.W.mg_of X G (He.eqO_ok z11), of_decide_eq_true z13, of_decide_eq_true z14, fun j hj => (kit j hj).1, fun j hj => (kit j hj).2⟩
theorem base_ok (X : K.In h) (G : h.Ns mainGlobals mg) (b : baseB K = true) (r : Nat) (hr : r < 3) : mg (wn r) = some (.ref (eW K r)) := PySem.W.mg_of X G (He.eqO_ok (List.all_eq_true.mp b r (List.mem_range.mpr hr)))
end
end Hz
set_option Elab.async false
set_option linter.all false
set_option maxRecDepth 100000
set_option maxHeartbeats 8000000
namespace Hz
open PySem PySem.Spec PyProof.Rows L2 Fx
/-! a class of errors whose kin nobody asks for -/
def errS (K : PySem.W.Frag) (x f : Str) (r : Nat) : Bool := clsB K (eC K x) (eW K r) (bmOf r) (newOf r) && (He.eqO (PySem.W.findIn K (.ref (eC K x)) "__setattr__") (some (some (.builtin "object.__setattr__"))) && (He.eqO (PySem.W.findIn K (.ref (eC K x)) "__init__") (some (some (.ref (eI K x)))) &&
  (decide (PySem.W.typeIn K (.ref (eI K x)) = some (.type "function")) && (PySem.W.keepIn K (.ref (eC K x)) && (He.eqO (PySem.W.alongIn K "__init__" (.ref (eW K r) :: bmOf r)) (some (some (.builtin (initOf r)))) &&
  (He.eqO (PySem.W.findIn K (.ref (eC K x)) f) (some none) && (isB K (eC K x) &&
  (He.eqO (PySem.W.nsIn K mainGlobals x) (some (some (.ref (eC K x)))) && (fnB K (eC K x) (eI K x) && (decide (PySem.W.typeIn K (.ref (eC K x)) = some (.type "type")) && He.eqO (PySem.W.nsIn K cStatics "thirdparty.any") (some none)))))))))))
structure ErrS (P : Program) (K : PySem.W.Frag) (mg : Str → Option Value) (x f : Str) (r : Nat) : Prop where
  e : Err1 P K mg (newOf r) (initOf r) (bmOf r) (eC K x) (eW K r) (eI K x) f
  i : IsC K (eC K x)
  g : mg x = some (.ref (eC K x))
  ty : PySem.W.typeIn K (.ref (eC K x)) = some (.type "type")
section
variable {P : Program} {K : PySem.W.Frag} {mg : Str → Option Value} {h : Heap}
theorem errS_ok {x f : Str} {r : Nat} {st : Stmt} (hP : (P.main.file == ("/claim/cut.py" : Str)) = true) (hS : (P.main.scope.names.lookup ("super" : Str)).isSome = false) (X : K.In h) (G : h.Ns mainGlobals mg) (su : mg "super" = none) (ff : f = "given" ∨ f = "index")
    (b : errS K x f r = true) (v : fnI K (eI K x) = fnV st) (t : Txt1 st f) : ErrS P K mg x f r := by
  obtain ⟨z1, z⟩ := Bool.and_eq_true_iff.mp b
  obtain ⟨z2, z⟩ := Bool.and_eq_true_iff.mp z
  obtain ⟨z3, z⟩ := Bool.and_eq_true_iff.mp z
  obtain ⟨z4, z⟩ := Bool.and_eq_true_iff.mp z
  obtain ⟨z5, z⟩ := Bool.and_eq_true_iff.mp z
  obtain ⟨z6, z⟩ := Bool.and_eq_true_iff.mp z
  obtain ⟨z7, z⟩ := Bool.and_eq_true_iff.mp z
  obtain ⟨z8, z⟩ := Bool.and_eq_true_iff.mp z
  obtain ⟨z11, z⟩ := Bool.and_eq_true_iff.mp z
  obtain ⟨z12, z⟩ := Bool.and_eq_true_iff.mp z
  obtain ⟨z13, z15⟩ := Bool.and_eq_true_iff.mp z
  have ic := isB_ok z8
  obtain ⟨oc, od, qual, kV, doc, pm, an, cda, cc, ct, osl, vs, file, tf, ccl, cl, cdd, cld, ccs, csl, e1, e2, e3, e4, rfl, e6⟩ := fn_ok v z12
  obtain ⟨msg, kM, p1, p2, q1, q2, q3, q4, q5, q6, r1, r2, r3, r4, t1, t2, t3, t4⟩ := t
  rw [t1, t2, t3] at e1
  exact ⟨⟨⟨clsB_ok z1, He.eqO_ok z2, He.eqO_ok z3, of_decide_eq_true z4, z5, He.eqO_ok z6, He.eqO_ok z15, su⟩, ⟨oc, od, qual, msg, kM, kV, doc, pm, an, cda, cc, ct, osl, p1, p2, q1, q2, q3, q4, q5, q6, r1, r2, r3, r4, vs, _, tf, ccl, cl, cdd, cld, ccs, csl, e1, e2, e3, e4, hP, e6, hS, t4⟩, He.eqO_ok z7, ff⟩, ic, PySem.W.mg_of X G (He.eqO_ok z11), of_decide_eq_true z13⟩
end
end Hz
set_option Elab.async false
set_option linter.all false
set_option maxRecDepth 100000
set_option maxHeartbeats 8000000
namespace Gd
open PySem PySem.Spec PyProof.Rows L2
/-! a law's end with tables of code objects, its promise kept where nothing is being shown -/
section
variable {P : Program} {w : World} {K : PySem.W.Frag} {mg mb : Str → Option Value} {k : Nat} {fa a : Addr} {fd : FuncData} {x : Str} {sp : Sp} {z : Shared} {vs : List Value} {cs : List (Addr × Addr)}
/-- what is known of the tables -/
structure TabH (K : PySem.W.Frag) (mg : Str → Option Value) (cs : List (Addr × Addr)) (h : Heap) : Prop where
  empty : ∀ p ∈ cs, h.get? p.2 = some { cls := .none, data := .fields #[] }
  out : ∀ p ∈ cs, K.lookup p.2 = none
  code : ∀ p ∈ cs, PySem.W.CodeHd h p.1 p.2
  mod : ∃ (bm : Addr) (ob : Obj), mg "__builtins__" = some (.ref bm) ∧ bm ≠ builtinsNs ∧ h.get? bm = some ob ∧ ob.cls = .type "module" ∧ ob.dict = some builtinsNs ∧ ob.data = .plain
theorem law_coreT {H : Hp} (KX : K.In z.heap) (g1 : z.heap.Ns mainGlobals mg) (g2 : z.heap.Ns builtinsNs mb) (g3 : ∀ y : Str, y ≠ "__name__" → mb y = bootBuiltins y) (g4 : z.heap.NoLimit) (g5 : z.gens = #[]) (T : TabH K mg cs z.heap)
    (ha : z.heap.get? a = some { cls := .type "list", data := .seq vs.toArray }) (hr : Room k callerA) (F : ∀ base : Heap, K.In base → base.Ns mainGlobals mg → (∀ p ∈ cs, LamX.TabB base mg p.1 p.2) → FnG P w K mg base k fa fd [x] sp) (hbind : ∀ (s : Shared) (u : Value), BindsTo s fd ⟨[u], []⟩ [(x, u)])
    (hH : ∀ p ∈ cs, H p.2 = some (.tbl #[])) (only : ∀ b, H b = none ∨ b ∈ cs.map (·.2) ∨ ∃ o xs, H b = some (.frz o (.lst xs))) (hsp : sp [.ref a] H (fun v _ => v = .bl true) fun _ _ _ => False) (ok : HOk P w H z.heap) (hA : ∀ b, H b ≠ none → b = a ∨ b ∈ cs.map (·.2)) (hK : H a ≠ none → K.lookup a = none) :
    codeAny (model P w) callerA (.call (.ref fa) ⟨[.ref a], []⟩) (fun r s' => r = .ok (.ret (.bool true)) ∧ OldK z.heap s'.heap ∧ s'.os = z.os ∧ AllBare s'.gens) z := by
  have tab : ∀ {b : Addr}, b ∈ cs.map (·.2) → ∃ p ∈ cs, p.2 = b := fun {b} hb => List.mem_map.mp hb
  have out : ∀ {b : Addr} {o : Obj}, z.heap.get? b = some o → (∀ xs n, o.data ≠ .seq xs n) → o.data ≠ .fields #[] → H b = none := by
    intro b o e h1 h2
    cases q : H b with
    | none => rfl
    | some u =>
      rcases hA b (by rw [q]; exact fun y => nomatch y) with e' | e'
      · subst e'
        rw [ha] at e
        cases e
        exact absurd rfl (h1 _ _)
      · obtain ⟨p, hp, rfl⟩ := tab e'
        rw [T.empty p hp] at e
        cases e
        exact absurd rfl h2
  have dictOut : ∀ {b : Addr} {o : Obj} {es : Array DictEntry} {ep : Nat}, z.heap.get? b = some o → o.data = .dict es ep → H b = none := fun {b o es ep} e d =>
    out e (fun xs n q => by rw [d] at q; cases q) (fun q => by rw [d] at q; cases q)
  have ns : ∀ {b : Addr} {m : Str → Option Value}, z.heap.Ns b m → (hidT z.heap H).Ns b m := by
    intro b m ⟨o, es, ep, e, d, r⟩
    exact ⟨o, es, ep, hidT_get e (dictOut e d), d, r⟩
  have kin : K.In (hidT z.heap H) := by
    intro b o e
    refine hidT_get (KX b o e) ?_
    cases q : H b with
    | none => rfl
    | some u =>
      rcases hA b (by rw [q]; exact fun y => nomatch y) with e' | e'
      · subst e'
        rw [hK (by rw [q]; exact fun y => nomatch y)] at e
        cases e
      · obtain ⟨p, hp, rfl⟩ := tab e'
        rw [T.out p hp] at e
        cases e
  have mod : Mod K mg (hidT z.heap H) := by
    obtain ⟨mc, h1, h2⟩ := g4
    exact ⟨kin, ns g1, ⟨mb, ns g2, g3⟩, ⟨mc, ns h1, h2⟩⟩
  have tb : ∀ p ∈ cs, LamX.TabB (hidT z.heap H) mg p.1 p.2 := by
    intro p hp
    refine ⟨?_, ?_, fun q => ?_⟩
    · obtain ⟨o, us, file, tf, flags, tg, inF, text, tt, e1, r1, r2, r3, r⟩ := T.code p hp
      refine ⟨o, us, file, tf, flags, tg, inF, text, tt, hidT_get e1 (out e1 (fun xs n q => by rw [r2] at q; cases q) fun q => ?_), r1, r2, r3, r⟩
      rw [r2] at q
      cases q
      simp at r3
    · obtain ⟨bm, ob, b1, b2, b3, b4, b5, b6⟩ := T.mod
      refine ⟨bm, ob, b1, b2, fun q => ?_, fun q => ?_, hidT_get b3 (out b3 (fun xs n q => by rw [b6] at q; cases q) fun q => by rw [b6] at q; cases q), b4, b5, b6⟩
      · obtain ⟨o, es, ep, e, d, _⟩ := g1
        rw [q, e] at b3
        cases b3
        rw [d] at b6
        cases b6
      · rw [q, T.empty p hp] at b3
        cases b3
        cases b6
    · obtain ⟨o, es, ep, e, d, _⟩ := g1
      rw [q, T.empty p hp] at e
      cases e
      cases d
  have e0 : Env0 P w K mg (hidT z.heap H) callerA [] z H :=
    ⟨rfl, mod, fun b o e => of_hidT e, Nat.le_of_eq (hidT_size _ _), trivial, fun b hb => (nomatch (show b ∈ ([] : List Addr) from hb)), ok, .of_eq g5⟩
  refine codeAny_mono ((F _ kin (ns g1) tb).run callerA [] z H ⟨[.ref a], []⟩ [.ref a] [.ref a] _ _ rfl hr e0 (hbind z (.ref a)) (.cons rfl .nil) hsp) fun r s' h => ?_
  cases r with
  | error e => exact h.elim
  | ok fl =>
    cases fl with
    | next => exact h.elim
    | brk => exact h.elim
    | cont => exact h.elim
    | ret u =>
      obtain ⟨v, H', os, bare, un, ok', r', q⟩ := h
      obtain rfl : v = V.bl true := q
      have eu : u = Value.bool true := r'
      subst eu
      have keep : ∀ b o, b ∉ cs.map (·.2) → z.heap.get? b = some o → s'.heap.get? b = some o := fun b o nb e => by
        cases q : H b with
        | none => exact un.keep b o e q (fun y => nomatch (show b ∈ ([] : List Addr) from y)) (fun y => nomatch y)
        | some u =>
          rcases only b with y | y | ⟨ob, xs, y⟩
          · rw [q] at y
            cases y
          · exact absurd y nb
          · obtain ⟨e1, _⟩ := ok b _ y
            obtain ⟨e2, _⟩ := ok' b _ (un.frzs b ob _ y)
            rw [e] at e1
            cases e1
            exact e2
      have grown : ∀ p ∈ cs, ∃ more : Array Value, s'.heap.get? p.2 = some { cls := .none, data := .fields more } := fun p hp => by
        obtain ⟨more, y⟩ := un.tbls p.2 #[] (hH p hp)
        exact ⟨_, ok' p.2 _ y⟩
      refine ⟨rfl, ⟨fun b o e => ?_, fun b o e => ?_⟩, os, bare⟩
      · by_cases hb : b ∈ cs.map (·.2)
        · obtain ⟨p, hp, rfl⟩ := tab hb
          obtain ⟨more, hm⟩ := grown p hp
          rw [T.empty p hp] at e
          cases e
          exact .inr (.inl ⟨((T.code p hp).tab (T.empty p hp)).isCodeTable, rfl, #[], more, rfl, by rw [Array.empty_append]; exact hm⟩)
        · exact .inl (keep b o hb e)
      · by_cases hb : b ∈ cs.map (·.2)
        · obtain ⟨p, hp, rfl⟩ := tab hb
          obtain ⟨more, hm⟩ := grown p hp
          exact ⟨_, hm⟩
        · exact ⟨o, keep b o hb e⟩
theorem law_callT {ns : List Int} (KX : K.In z.heap) (g1 : z.heap.Ns mainGlobals mg) (g2 : z.heap.Ns builtinsNs mb) (g3 : ∀ y : Str, y ≠ "__name__" → mb y = bootBuiltins y) (g4 : z.heap.NoLimit) (g5 : z.gens = #[]) (T : TabH K mg cs z.heap)
    (ha : z.heap.get? a = some { cls := .type "list", data := .seq vs.toArray }) (hi : IntsAre vs ns) (hl : ns.length ≤ sizeLine) (hr : Room k callerA) (F : ∀ base : Heap, K.In base → base.Ns mainGlobals mg → (∀ p ∈ cs, LamX.TabB base mg p.1 p.2) → FnG P w K mg base k fa fd [x] sp) (hbind : ∀ (s : Shared) (u : Value), BindsTo s fd ⟨[u], []⟩ [(x, u)])
    (hsp : ∀ H : Hp, (∀ p ∈ cs, H p.2 = some (.tbl #[])) → SqL K H a (ns.map V.int) → sp [.ref a] H (fun v _ => v = .bl true) fun _ _ _ => False) :
    codeAny (model P w) callerA (.call (.ref fa) ⟨[.ref a], []⟩) (fun r s' => r = .ok (.ret (.bool true)) ∧ OldK z.heap s'.heap ∧ s'.os = z.os ∧ AllBare s'.gens) z := by
  have rv := vals_ints hi
  have lv := hi.length
  have aT : ∀ p ∈ cs, p.2 ≠ a := fun p hp q => by
    have e := T.empty p hp
    rw [q, ha] at e
    cases e
  have mem : ∀ p ∈ cs, p.2 ∈ cs.map (·.2) := fun p hp => List.mem_map.mpr ⟨p, hp, rfl⟩
  have laid : ∀ b, b ∈ cs.map (·.2) → z.heap.get? b = some { cls := .none, data := .fields #[] } := fun b hb => by
    obtain ⟨p, hp, rfl⟩ := List.mem_map.mp hb
    exact T.empty p hp
  cases hk : K.lookup a with
  | some o =>
    have e := KX a o hk
    rw [ha] at e
    cases e
    let H : Hp := fun b => if b ∈ cs.map (·.2) then some (.tbl #[]) else none
    have on : ∀ b, b ∈ cs.map (·.2) → H b = some (.tbl #[]) := fun b hb => if_pos hb
    have off : ∀ b, b ∉ cs.map (·.2) → H b = none := fun b hb => if_neg hb
    have sq : SqL K H a (ns.map V.int) := .inr ⟨_, vs.toArray, _, hk, rfl, rfl, rfl, by rw [List.size_toArray, lv]; exact hl, by simpa using rv⟩
    have na : H a = none := off a fun q => by
      obtain ⟨p, hp, e⟩ := List.mem_map.mp q
      exact aT p hp e
    refine law_coreT (H := H) KX g1 g2 g3 g4 g5 T ha hr F hbind (fun p hp => on _ (mem p hp)) (fun b => ?_) (hsp H (fun p hp => on _ (mem p hp)) sq) (fun b u y => ?_) (fun b y => ?_) fun y => absurd na y
    · by_cases hb : b ∈ cs.map (·.2)
      · exact .inr (.inl hb)
      · exact .inl (off b hb)
    · by_cases hb : b ∈ cs.map (·.2)
      · rw [on b hb] at y
        cases y
        exact laid b hb
      · rw [off b hb] at y
        cases y
    · by_cases hb : b ∈ cs.map (·.2)
      · exact .inr hb
      · exact absurd (off b hb) y
  | none =>
    let H : Hp := fun b => if b = a then some (.frz { cls := .type "list", data := .seq vs.toArray } (.lst (ns.map V.int))) else if b ∈ cs.map (·.2) then some (.tbl #[]) else none
    have at_a : H a = some (.frz { cls := .type "list", data := .seq vs.toArray } (.lst (ns.map V.int))) := if_pos rfl
    have on : ∀ p ∈ cs, H p.2 = some (.tbl #[]) := fun p hp => (if_neg (aT p hp)).trans (if_pos (mem p hp))
    have onB : ∀ b, b ∈ cs.map (·.2) → H b = some (.tbl #[]) := fun b hb => by
      obtain ⟨p, hp, rfl⟩ := List.mem_map.mp hb
      exact on p hp
    have off : ∀ b, b ≠ a → b ∉ cs.map (·.2) → H b = none := fun b h1 h2 => (if_neg h1).trans (if_neg h2)
    refine law_coreT (H := H) KX g1 g2 g3 g4 g5 T ha hr F hbind on (fun b => ?_) (hsp H on (.inl (.inr ⟨_, at_a⟩))) (fun b u y => ?_) (fun b y => ?_) fun _ => hk
    · by_cases hb : b = a
      · subst hb
        exact .inr (.inr ⟨_, _, at_a⟩)
      · by_cases hb2 : b ∈ cs.map (·.2)
        · exact .inr (.inl hb2)
        · exact .inl (off b hb hb2)
    · by_cases hb : b = a
      · subst hb
        rw [at_a] at y
        cases y
        refine ⟨ha, ?_, vs, _, rv, ha⟩
        rw [List.length_map]
        exact hl
      · by_cases hb2 : b ∈ cs.map (·.2)
        · rw [onB b hb2] at y
          cases y
          exact laid b hb2
        · rw [off b hb hb2] at y
          cases y
    · by_cases hb : b = a
      · exact .inl hb
      · by_cases hb2 : b ∈ cs.map (·.2)
        · exact .inr hb2
        · exact absurd (off b hb hb2) y
end
/-- the end over a head by facts and tables -/
theorem walk_GT {l : PySem.W.OpenLaw} {n k : Nat} {q : Program} {loose : List Str} {XP : (Str → Option Value) → Heap → Prop} {YP : World → Heap → Prop} {d : DefRec} {x : Str}
    (hn : l.most = some n) (hn2 : n ≤ sizeLine) (hdf : d.params.defaults = []) (hr : Room k callerA)
    (F : ∀ (w : World) (mg : Str → Option Value) (fa : Addr) (h : Heap), YP w h → h.Ns mainGlobals mg → mg d.name = some (.ref fa) →
      ∃ (K : PySem.W.Frag) (fd : FuncData) (sp : Sp) (cs : List (Addr × Addr)), K.In h ∧ ((∀ p ∈ cs, h.get? p.2 = some { cls := .none, data := .fields #[] }) ∧ (∀ p ∈ cs, K.lookup p.2 = none) ∧ ∀ p ∈ cs, PySem.W.CodeHd h p.1 p.2) ∧ (∀ (s : Shared) (u : Value), BindsTo s fd ⟨[u], []⟩ [(x, u)]) ∧
        (∀ (H : Hp) (a : Addr) (ns : List Int), ns.length ≤ n → (∀ y ∈ ns, Builtin.Int.intBits y ≤ 1048576) → (∀ p ∈ cs, H p.2 = some (.tbl #[])) → SqL K H a (ns.map V.int) → sp [.ref a] H (fun v _ => v = .bl true) fun _ _ _ => False) ∧
        ∀ base : Heap, K.In base → base.Ns mainGlobals mg → (∀ p ∈ cs, LamX.TabB base mg p.1 p.2) → FnG l.prog w K mg base k fa fd [x] sp) :
    PySem.W.WalkO q loose XP YP l.row.toRowW d [] (fun f vs => PySem.call f vs) := by
  refine Att.attach_callB hn hdf fun w s₀ z mg mb fa o pm cd doc a vs ns G Y ho hd hcd hmg hobj hints hlen hbits hg => ?_
  obtain ⟨K, fd, sp, cs, KX, ⟨t1, t2, t3⟩, hb, hsp, hF⟩ := F w mg fa _ Y G.T.g hmg
  exact law_callT KX G.T.g G.T.b G.T.builtins G.T.nolimit hg ⟨t1, t2, t3, G.T.bmain⟩ hobj hints (Nat.le_trans hlen hn2) hr hF hb fun H hH hS => hsp H a ns hlen hbits hH hS
end Gd
set_option Elab.async false
set_option linter.all false
set_option maxRecDepth 100000
set_option maxHeartbeats 0
namespace K5
open PySem PySem.Spec PyProof.Rows L2 Gd Rl
/-! ### the head -/
def dd (x : Str) (st : Stmt) : He.DefD := ⟨(x, none), x, x, defArgs st, defBody st, defScope st, [], []⟩
def fn : List He.DefD := [dd "is_integer" (Pg.top 8), dd "are_integers" (Pg.top 9), dd "weighed" (Pg.top 10), dd "least" (Pg.top 12), dd "_check_tests" (Pg.top 13), dd "_is_any_form" (Pg.top 14), dd "least_at" (Pg.top 15), dd "reach_points" (Pg.top 16), dd "lowest" (Pg.top 17), dd "arrows" (Pg.top 18), dd "_cut" (Pg.top 19), dd "_leveled" (Pg.top 20), dd "_cut_arrows" (Pg.top 21), dd "_are_neighbours" (Pg.top 22), dd "_law_well" (Pg.top 24), dd "_law_draw" (Pg.top 25), dd "_law_pick" (Pg.top 26), dd "_law_great" (Pg.top 27), dd "_law_shared" (Pg.top 28), dd "_law_without" (Pg.top 29), dd "_law_low" (Pg.top 30), dd "_law_number" (Pg.top 31), dd "_law_right" (Pg.top 32), dd "law" (Pg.top 33)]
def fa : List He.Fa := [.glo "is_integer", .glo "are_integers", .glo "weighed", .glo "least", .glo "_check_tests", .glo "_is_any_form", .glo "least_at", .glo "reach_points", .glo "lowest", .glo "arrows", .glo "_cut", .glo "_leveled", .glo "_cut_arrows", .glo "_are_neighbours", .glo "_law_well", .glo "_law_draw", .glo "_law_pick", .glo "_law_great", .glo "_law_shared", .glo "_law_without", .glo "_law_low", .glo "_law_number", .glo "_law_right", .glo "law", .free "isinstance", .free "int", .free "bool", .free "tuple", .free "len", .free "all", .free "any", .free "enumerate", .free "range", .free "sum", .free "zip", .free "divmod", .free "abs", .free "max", .free "min", .free "super", .free "list", .free "repr", .int "MOST_VARIABLES" 3, .int "MOST_FORMS" 9]
abbrev eSt0 : Stmt := inClass (Pg.top 4) 0
theorem eTx0 : Hz.Txt1 eSt0 "index" := ⟨_, _, _, _, _, _, _, _, _, _, _, _, _, _, rfl, rfl, rfl, rfl⟩
abbrev eSt1 : Stmt := inClass (Pg.top 3) 0
theorem eTx1 : Hz.Txt1 eSt1 "given" := ⟨_, _, _, _, _, _, _, _, _, _, _, _, _, _, rfl, rfl, rfl, rfl⟩
def el : List (Str × Str × Nat × Stmt) := [("InvalidForms", "index", 0, eSt0), ("InvalidForm", "given", 0, eSt1)]
def tf : List He.Defn := []
def exB (K : PySem.W.Frag) : Bool := (el.all fun e => Hz.errS K e.1 e.2.1 e.2.2.1) && He.eqO (PySem.W.nsIn K mainGlobals "gcd") (some (some (.builtin "math.gcd")))
/-- what is come to in n rounds, each address once: what was seen is one number, a sign of it an address -/
def addF (p : Nat × List Addr) (r : Addr) : Nat × List Addr := match Nat.testBit p.1 r with
  | true => p
  | false => (p.1 ||| (1 <<< r), r :: p.2)
def layF (g : Addr → Option Obj) (seen : Nat) (front : List Addr) : Nat × List Addr := front.foldl (fun p a => match g a with
  | some o => (He.refsD o).foldl addF p
  | none => p) (seen, [])
def asF (g : Addr → Option Obj) : Nat → List Addr → Nat → List Addr → List Addr
  | 0, all, _, _ => all
  | n + 1, all, seen, front => match layF g seen front with
    | (s, f) => asF g n (f ++ all) s f
def asK (g : Addr → Option Obj) (n : Nat) : List Addr := cStatics :: asF g n [mainGlobals] (1 <<< mainGlobals) [mainGlobals]
abbrev AlK : Type := (Bool × List He.FnW) × (Bool × List Hz.FnI)
def obsK (K : PySem.W.Frag) : AlK := (He.obsD fa fn K, (exB K, el.map fun e => Hz.fnI K (Hz.eI K e.1)))
def valK : AlK := (He.valD fn, (true, el.map fun e => Hz.fnV e.2.2.2))
def SaysK (K : PySem.W.Frag) : Prop := obsK K = valK
def TabsK (h : Heap) (K : PySem.W.Frag) : Prop := ∀ p ∈ tf, PySem.W.codeHdIn K (He.cT K p).1 (He.cT K p).2 = true ∧ K.lookup (He.cT K p).2 = none ∧ h.get? (He.cT K p).2 = some { cls := .none, data := .fields #[] }
def obsKG (g : Addr → Option Obj) : AlK := (He.obsD fa fn (He.frT g (asK g 5)), (exB (He.frT g (asK g 5)) && He.tabsB g tf (He.frT g (asK g 5)), el.map fun e => Hz.fnI (He.frT g (asK g 5)) (Hz.eI (He.frT g (asK g 5)) e.1)))
theorem says_of {h : Heap} (e : obsKG h.get? = valK) : SaysK (He.frT h.get? (asK h.get? 5)) ∧ TabsK h (He.frT h.get? (asK h.get? 5)) := by
  have e1 := congrArg (fun z : AlK => z.1) e
  have e2 : (exB (He.frT h.get? (asK h.get? 5)) && He.tabsB h.get? tf (He.frT h.get? (asK h.get? 5))) = true := congrArg (fun z : AlK => z.2.1) e
  have e3 := congrArg (fun z : AlK => z.2.2) e
  obtain ⟨h1, h2⟩ := Bool.and_eq_true_iff.mp e2
  refine ⟨Prod.ext e1 (Prod.ext h1 e3), fun p hp => ?_⟩
  obtain ⟨h3, h4⟩ := Bool.and_eq_true_iff.mp (List.all_eq_true.mp h2 p hp)
  cases q : h.get? (He.cT (He.frT h.get? (asK h.get? 5)) p).2 with
  | none =>
    rw [q] at h4
    cases h4
  | some o =>
    rw [q] at h4
    exact ⟨h3, He.frT_none q h4, by rw [He.emptyTab_eq h4]⟩
def hk : PySem.W.Hook where
  α := AlK
  obs := fun s => obsKG s.heap.get?
  val := fun _ => valK
  says := fun _ h => ∃ K : PySem.W.Frag, K.In h ∧ SaysK K ∧ TabsK h K
  of := fun _ _ e => ⟨_, He.frT_in, says_of e⟩
  keeps := fun _ _ _ ⟨K, i, c, t⟩ k => ⟨K, PySem.W.Frag.In.keeps i k, c, fun p hp => ⟨(t p hp).1, (t p hp).2.1, k _ _ (t p hp).2.2⟩⟩
abbrev R : PySem.W.OpenRow := PySem.W.OpenLaw.row PySem.Challenge.rw_fallranks_k21_whole_least_by_taking_vari
def ob (s : PySem.W.SharedT) : AlK := obsKG (HandSHeadRun.getT s)
theorem ob_eq (s : PySem.W.SharedT) : ob s = hk.obs s.abs := by
  have e : HandSHeadRun.getT s = s.abs.heap.get? := funext (HandSHeadRun.getT_eq s)
  unfold ob
  rw [e]
  rfl
def names : List Str := ["WrongValue", "InvalidForm", "InvalidForms", "MOST_VARIABLES", "MOST_FORMS", "is_integer", "are_integers", "weighed", "least", "_check_tests", "_is_any_form", "least_at", "reach_points", "lowest", "arrows", "_cut", "_leveled", "_cut_arrows", "_are_neighbours", "_law_well", "_law_draw", "_law_pick", "_law_great", "_law_shared", "_law_without", "_law_low", "_law_number", "_law_right"]
theorem run (w : World) : HandSHeadRun.RunEqI R (PySem.W.view R.prog [0, 33]) hk ob 9000 names w := by
  unfold HandSHeadRun.RunEqI
  kernel_rfl
end K5
set_option Elab.async false
set_option linter.all false
set_option maxRecDepth 100000
set_option maxHeartbeats 8000000
namespace Pg
open PySem PySem.Spec PyProof.Rows L2 Gd Rl Te Vd Fx Hy
/-- a def from which errors go out -/
theorem okX {P : Program} {w : World} {K : PySem.W.Frag} {mg : Str → Option Value} {base : Heap} {x qual : Str} {params : Arguments} {body : List Stmt} {scope : Scope} {dvs : List V} {kws : List (Str × V)} {f : Addr} {fd : FuncData} {N ps : List Str} {k : Nat} {sp : Sp}
    (F : FunD K x qual params body scope dvs kws f fd) (S : FnScope N ps scope) (len : ∀ vs H Q E, sp vs H Q E → vs.length = ps.length)
    (hbody : ∀ (cdv : Value) (A : Around) (outer : List Env) (s : Shared) (H : Hp) (vs : List V) (Q : VK) (E : XK), Room k (A.deeper (envOfC qual scope s.heap.objs.size f cdv)) → sp vs H Q E →
      ∃ t, PSs (cxOf (L2.CX P w) P w K mg base N qual scope f cdv A outer s H E) body t ∧ t { nx := fun _ H' => Q .non H', rt := Q } (L2.start N vs) H) : FnOk P w K mg base (L2.CX P w) (k + 1) f fd ps sp := by
  obtain ⟨oc, od, dV, kV, doc, pm, an, cdv, ct, osl, rfl, lk, hcd, _, _⟩ := F.ex
  exact fn_of lk hcd S len fun A outer s H vs Q E hr hsp => hbody cdv A outer s H vs Q E hr hsp
/-- what is known of an own error of one field -/
structure ErrK (prog : Program) (K : PySem.W.Frag) (mg : Str → Option Value) (x : Str) (C W fI : Addr) (f : Str) : Prop where
  e : Err1 prog K mg "ValueError.__new__" "ValueError.__init__" [.type "ValueError", .type "Exception", .type "BaseException", .type "object"] C W fI f
  g : mg x = some (.ref C)
  sub : PySem.W.subIn K (.ref C) (.type "BaseException") = some true
  ty : PySem.W.typeIn K (.ref C) = some (.type "type")
theorem iteDN {c A B : Prop} [Decidable c] (hc : ¬ c) (h : B) : if decide c = true then A else B := by
  rw [decide_eq_false hc]
  exact iteF h
theorem iteDY {c A B : Prop} [Decidable c] (hc : c) (h : A) : if decide c = true then A else B := by
  rw [decide_eq_true hc]
  exact iteT h
abbrev OutV (E : XK) (H : Hp) (CE : Addr) (f : Str) (v : V) : Prop := ∀ H1 dd, Same H H1 → H1 dd = none → E (.ref CE) (some dd) (upd H1 dd (.xd [(f, v)]))
/-- how long a row is -/
def lenD : PyData → Nat
  | .tuple ds => ds.length
  | _ => 0
def badT (ds : List PyData) (i : Nat) : Bool := decide (9 ≤ i) || (!fmB (ds.getD i .none) || !decide (lenD (ds.getD i .none) = lenD (ds.getD 0 .none)))
/-- nothing in it is long -/
def Wd3 (d : PyData) : Prop := ∀ ds, d = .tuple ds → ds.length ≤ 1000 ∧ ∀ x ∈ ds, Wd2 x
section
variable {P : Program} {w : World} {K : PySem.W.Frag} {mg : Str → Option Value} {base : Heap} {f : Addr} {fd : FuncData}
def spCT (K : PySem.W.Frag) (CE : Addr) : Sp := fun vs H Q E => ∃ (v : V) (d : PyData), vs = [v] ∧ Vp K H v d ∧ Wd3 d ∧ (∀ ds, d = .tuple ds → (∀ i, i < ds.length → badT ds i = false) → ∀ H', Same H H' → Q .non H') ∧
  ((∀ ds, d ≠ .tuple ds) → OutV E H CE "index" .non) ∧ (∀ ds i, d = .tuple ds → i < ds.length → (∀ j, j < i → badT ds j = false) → badT ds i = true → OutV E H CE "index" (.int (i : Nat)))
abbrev nChk : List Str := ["tests", "at", "test"]
theorem scChk : FnScope nChk ["tests"] (defScope sChk) := ⟨rfl, rfl, rfl, by decide +kernel, rfl, by decide +kernel, by decide +kernel⟩
theorem ok_chk {fI fM fA CN WN fE : Addr} {dI dM dA : FuncData} (F : FnP K "_check_tests" sChk f fd) (T : Mo mg) (FI : FnP K "is_integer" sInt fI dI) (gI : mg "is_integer" = some (.ref fI)) (FM : FnP K "are_integers" sInts fM dM) (gM : mg "are_integers" = some (.ref fM))
    (FA : FnP K "_is_any_form" sAnyF fA dA) (gA : mg "_is_any_form" = some (.ref fA)) (XE : ErrK P K mg "InvalidForms" CN WN fE "index") : FnOk P w K mg base (L2.CX P w) 4 f fd ["tests"] (spCT K CN) := by
  have GA : FnOk P w K mg base CX0 3 fA dA ["value"] (spAF K) := ok_anyf FA T FI gI FM gM
  have bA : Binds K dA ["value"] [] := FA.bindsN fun _ _ _ _ _ _ us hl => match us, hl with | [_], _ => rfl
  obtain ⟨t1, c1⟩ := T.mfor
  refine okX F scChk (fun vs H Q E h => ?_) (fun cdv A outer s H vs Q E hr h => ?_)
  · obtain ⟨v, d, rfl, _⟩ := h
    rfl
  · obtain ⟨v, d, rfl, hv, hf, kY, kN0, kN⟩ := h
    have hr2 := hr.mono (show 2 ≤ 3 by decide)
    refine ⟨_, pss_cons (ps_if (pt_not (pt_val (pe_callB (call_isV (T := "tuple")) (by rfl) T.isi boot_isinstance (pa_cons (pv 0) (pa_cons (pe_bltn (v := .ty "tuple") (by rfl) T.tuple (by decide +kernel) rfl) pa_nil)))))
        (pss_one (ps_raise rfl (takes_of rfl rfl rfl rfl) (pmk_err rootV XE.e (raises_own XE.sub XE.ty) hr2 XE.g (by rfl) pe_non))) pss_nil)
      <| pss_one (ps_for (passes_of rfl) rfl (pi_enumT (by rfl) T.enum (pa_cons (pv 0) pa_nil)) (pg_tup (by rfl) (pgs_cons (pg_name (i := 1) scChk.nd rfl (.inl rfl)) (pgs_cons (pg_name (i := 2) scChk.nd rfl (.inl rfl)) pgs_nil)))
          (pss_one (ps_if (PW.pt (pw_or (pt_cmpR op_ge (pv 1) (pe_glob (v := .int 9) (by rfl) c1 ⟨_, rfl⟩) (nomark _))
            (pw_or (pt_not (pt_val (pe_call GA hr (by rfl) gA FA.kp bA .nil pass0 (pa_cons (pv 2) pa_nil)))) (pw_or1 (pt_cmpR op_ne (pe_callB call_len (by rfl) T.len PySem.boot_len (pa_cons (pv 2) pa_nil)) (pe_callB call_len (by rfl) T.len PySem.boot_len (pa_cons (pe_ix (r := rIxT K) ix_tup (pv 0) pe_int (fun _ _ => rfl)) pa_nil)) (nomark _)))))) (pss_one (ps_raise rfl (takes_of rfl rfl rfl rfl) (pmk_err rootV XE.e (raises_own XE.sub XE.ty) hr2 XE.g (by rfl) (pv 1)))) pss_nil))), ?_⟩
    refine ⟨_, rfl, v, d, _, rfl, hv, kit_tuple _, _, rfl, ?_⟩
    cases d with
    | tuple ds =>
      refine iteF ?_
      obtain ⟨a, xs, rfl, hs, hxs⟩ := vp_tup hv
      have lx := vp_len hxs
      obtain ⟨fl, fs⟩ := hf ds rfl
      refine ⟨_, rfl, a, _, rfl, hs, for_it walk_enumT (fun j σ H' => ∃ x1 x2, σ = [some (.ref a), x1, x2] ∧ Same H H' ∧ ∀ i, i < j → badT ds i = false) ⟨_, _, rfl, Same.refl H, fun i hi => absurd hi (Nat.not_lt_zero i)⟩ (fun j σ H' _ ⟨_, _, _, s, _⟩ => Same.seqT s hs) ?_ ?_⟩
      · rintro j x σ H1 H2 hj ⟨x1, x2, rfl, s1, hall⟩ ⟨N, y, z, rfl, nT, rfl, ey, ez⟩
        cases ey
        obtain ⟨dz, edz, hz⟩ := vp_at hxs ez
        have hj2 : j < ds.length := (List.getElem?_eq_some_iff.mp edz).1
        have s2 : Same H (upd H1 N (.tup [.int (j : Nat), z])) := s1.trans (same_new nT)
        have eg := getP_at edz
        refine ⟨N, _, rfl, SqT.of upd_same, rfl, _, _, rfl, _, _, rfl, rfl, ?_⟩
        refine ⟨_, rfl, _, _, rfl, rfl, _, rfl, ?_⟩
        have raise : ∀ {H3 : Hp}, Same H H3 → badT ds j = true → OutV E H3 CN "index" (.int (j : Nat)) := fun s3 hb H4 dd s4 nd => kN ds j rfl hj2 hall hb H4 dd (s3.trans s4) nd
        by_cases h3 : (9 : Int) ≤ (j : Nat)
        · refine iteDY h3 ?_
          refine ⟨_, rfl, fun dd nd => raise s2 ?_ _ dd (Same.refl _) nd⟩
          unfold badT
          rw [decide_eq_true (show 9 ≤ j by omega)]
          rfl
        refine iteDN h3 ?_
        refine ⟨_, rfl, z, dz, rfl, vp_same s2 hz, fs dz (List.mem_of_getElem? edz), fun H3 s3 => ⟨_, rfl, ?_⟩⟩
        have s13 := s2.trans s3
        cases hb : fmB dz with
        | false =>
          refine iteT ?_
          refine ⟨_, rfl, fun dd nd => raise s13 ?_ _ dd (Same.refl _) nd⟩
          unfold badT
          rw [eg, hb]
          simp
        | true =>
          refine iteF ?_
          obtain ⟨ns, rfl, hns⟩ := fm_is hb
          obtain ⟨b, rfl, hsb⟩ := vp_form (vp_same s13 hz)
          -- the first one
          have hd0 : fmB (ds.getD 0 .none) = true := by
            rcases Nat.eq_zero_or_pos j with h | h
            · subst h
              rw [eg, hb]
            · have := hall 0 h
              unfold badT at this
              cases q : fmB (ds.getD 0 .none) with
              | true => rfl
              | false =>
                rw [q] at this
                simp at this
          obtain ⟨n0, e0, hn0⟩ := fm_is hd0
          have hlt0 : 0 < ds.length := by omega
          have ed0 : ds[0]? = some (fD n0) := by
            rw [← e0, List.getD_eq_getElem?_getD, List.getElem?_eq_getElem hlt0]
            rfl
          obtain ⟨x0, ex0⟩ : ∃ x0, xs[0]? = some x0 := ⟨_, List.getElem?_eq_getElem (by omega)⟩
          obtain ⟨d0, ed0', hx0⟩ := vp_at hxs ex0
          cases ed0.symm.trans ed0'
          obtain ⟨b0, rfl, hsb0⟩ := vp_form (vp_same s13 hx0)
          refine ⟨_, rfl, _, _, rfl, .inr ⟨_, hsb, rfl⟩, _, rfl, a, _, 0, _, rfl, rfl, Same.seqT s13 hs, atI_nat ex0, _, _, rfl, .inr ⟨_, hsb0, rfl⟩, rfl, _, rfl, ?_⟩
          have l1 : lenD (ds.getD j .none) = ns.length := by
            rw [eg]
            show (ns.map PyData.int).length = _
            rw [List.length_map]
          have l0 : lenD (ds.getD 0 .none) = n0.length := by
            rw [e0]
            show (n0.map PyData.int).length = _
            rw [List.length_map]
          have eb : badT ds j = !decide (ns.length = n0.length) := by
            unfold badT
            rw [decide_eq_false (show ¬ 9 ≤ j by omega), eg, hb]
            rw [eg] at l1
            rw [l1, l0]
            rfl
          simp only [List.length_map]
          by_cases hl : ns.length = n0.length
          · rw [show (!decide (V.int ((ns.length : Nat) : Int) = V.int ((n0.length : Nat) : Int))) = false by rw [hl]; simp]
            refine iteF ?_
            refine ⟨_, _, rfl, s13, fun i hi => ?_⟩
            rcases Nat.lt_or_ge i j with h | h
            · exact hall i h
            · have : i = j := by omega
              subst this
              rw [eb, hl]
              simp
          · rw [show (!decide (V.int ((ns.length : Nat) : Int) = V.int ((n0.length : Nat) : Int))) = true by
              rw [decide_eq_false fun e => hl (by have := V.int.inj e; omega)]
              rfl]
            refine iteT ⟨_, rfl, fun dd nd => raise s13 (by rw [eb, decide_eq_false hl]; rfl) _ dd (Same.refl _) nd⟩
      · rintro σ H' ⟨x1, x2, rfl, s1, hall⟩
        exact kY ds rfl (fun i hi => hall i (by omega)) H' s1
    | int i => exact iteT fun dd nd => kN0 (fun _ e => nomatch e) H dd (Same.refl H) nd
    | none => exact iteT fun dd nd => kN0 (fun _ e => nomatch e) H dd (Same.refl H) nd
    | bool b => exact iteT fun dd nd => kN0 (fun _ e => nomatch e) H dd (Same.refl H) nd
    | str z => exact iteT fun dd nd => kN0 (fun _ e => nomatch e) H dd (Same.refl H) nd
    | list ds => exact iteT fun dd nd => kN0 (fun _ e => nomatch e) H dd (Same.refl H) nd
    | dict ds => exact iteT fun dd nd => kN0 (fun _ e => nomatch e) H dd (Same.refl H) nd
end
end Pg
set_option Elab.async false
set_option linter.all false
set_option maxRecDepth 100000
set_option maxHeartbeats 8000000
set_option exponentiation.threshold 10000
namespace Te
open PySem PySem.Spec PyProof.Rows L2 Gd Rl RZ
theorem walk_zipT {K : PySem.W.Frag} {a b : Addr} {xs ys : List V} {n : Nat} (hn : n = min xs.length ys.length) : Walk (ItzT K a b) n (fun H => SqT K H a xs ∧ SqT K H b ys) (YPair (fun i => xs[i]?) (fun i => ys[i]?)) := by
  subst hn
  refine ⟨fun i _ hi q => ?_, fun _ q => ⟨xs, ys, q.1, q.2, by omega⟩, fun i H v H' _ q y => ?_⟩
  · have h1 : i < xs.length := by omega
    have h2 : i < ys.length := by omega
    exact ⟨xs, ys, xs[i], ys[i], q.1, q.2, by simp [h1], by simp [h2]⟩
  · obtain ⟨T, x, z, h1, h2, h3, h4, h5⟩ := y
    exact ⟨T, x, z, h1, h2, h3, h4 xs q.1, h5 ys q.2⟩
end Te
/-! vectors of whole numbers -/
namespace Dd
def gcdF (ns : List Int) : Nat := ns.foldl (fun c n => Nat.gcd c n.natAbs) 0
def lowF (ns : List Int) : List Int := ns.map fun z => z / (gcdF ns : Int)
def dot (f g : List Int) : Int := ((List.range g.length).map fun i => f.getD i 0 * g.getD i 0).sum
def combF (hi va : Int) (a u : List Int) : List Int := (List.range a.length).map fun i => hi * a.getD i 0 - va * u.getD i 0
def levF (a u t : List Int) : List Int := lowF (combF (dot t u) (dot t a) a u)
def Bd (b : Nat) (g : List Int) : Prop := ∀ z ∈ g, z.natAbs < 2 ^ b
theorem gcd_snoc (ns : List Int) (z : Int) : gcdF (ns ++ [z]) = Nat.gcd (gcdF ns) z.natAbs := by
  unfold gcdF
  rw [List.foldl_append]
  rfl
theorem gcd_fold_dvd : ∀ (ns : List Int) (c : Nat), ns.foldl (fun c n => Nat.gcd c n.natAbs) c ∣ c ∧ ∀ z ∈ ns, ns.foldl (fun c n => Nat.gcd c n.natAbs) c ∣ z.natAbs
  | [], c => ⟨Nat.dvd_refl _, fun z h => by cases h⟩
  | n :: ns, c => by
    obtain ⟨h1, h2⟩ := gcd_fold_dvd ns (Nat.gcd c n.natAbs)
    refine ⟨Nat.dvd_trans h1 (Nat.gcd_dvd_left _ _), fun z hz => ?_⟩
    rcases List.mem_cons.mp hz with rfl | hz
    · exact Nat.dvd_trans h1 (Nat.gcd_dvd_right _ _)
    · exact h2 z hz
theorem gcd_dvd {ns : List Int} {z : Int} (h : z ∈ ns) : ((gcdF ns : Nat) : Int) ∣ z := Int.ofNat_dvd_left.mpr ((gcd_fold_dvd ns 0).2 z h)
theorem gcd_pos {ns : List Int} {z : Int} (h : z ∈ ns) (hz : z ≠ 0) : 0 < gcdF ns := by
  rcases Nat.eq_zero_or_pos (gcdF ns) with e | e
  · have := (gcd_fold_dvd ns 0).2 z h
    have e2 : ns.foldl (fun c n => Nat.gcd c n.natAbs) 0 = 0 := e
    rw [e2] at this
    have := Nat.eq_zero_of_zero_dvd this
    omega
  · exact e
theorem gcd_le {ns : List Int} {z : Int} (h : z ∈ ns) (hz : z ≠ 0) : gcdF ns ≤ z.natAbs := Nat.le_of_dvd (by omega) ((gcd_fold_dvd ns 0).2 z h)
theorem gcd_small {ns : List Int} {b : Nat} (hb : Bd b ns) : gcdF ns < 2 ^ b := by
  by_cases h : ∃ z ∈ ns, z ≠ 0
  · obtain ⟨z, hz, h0⟩ := h
    exact Nat.lt_of_le_of_lt (gcd_le hz h0) (hb z hz)
  · have e : ∀ (ns : List Int), (∀ z ∈ ns, z = 0) → ns.foldl (fun c n => Nat.gcd c n.natAbs) 0 = 0 := by
      intro ns
      induction ns with
      | nil => intro _; rfl
      | cons n ns ih =>
        intro h
        rw [List.foldl_cons, h n (List.mem_cons_self ..)]
        exact ih fun z hz => h z (List.mem_cons_of_mem _ hz)
    have e0 : gcdF ns = 0 := e ns fun z hz => Classical.byContradiction fun q => h ⟨z, hz, q⟩
    rw [e0]
    exact Nat.two_pow_pos b
end Dd
namespace Pg
open PySem PySem.Spec PyProof.Rows L2 Gd Rl Te Vd Fx RZ Dd
abbrev sWei : Stmt := top 10
abbrev sLow : Stmt := top 17
abbrev sLev : Stmt := top 20
theorem mulI : ∀ {X : Cx}, OpR X (binaryOp .Mult) (rI (fun i j => IntMulOk i j) fun i j => .int (i * j)) := fun {X} => opI fun _ _ _ _ _ _ _ hc q => mul_int q hc
theorem bits_le {z : Int} {b : Nat} (h : z.natAbs < 2 ^ b) : Builtin.Int.intBits z ≤ b := intBits_le_iff.mpr h
theorem mul_ok {i j : Int} {a b : Nat} (ha : i.natAbs < 2 ^ a) (hb : j.natAbs < 2 ^ b) (h1 : a ≤ 1000000) (h2 : b ≤ 1000000) : IntMulOk i j := IntMulOk.of_le (Nat.le_trans (bits_le ha) h1) (Nat.le_trans (bits_le hb) h2) (by decide)
theorem getD_mem {l : List Int} {i : Nat} (h : i < l.length) : l.getD i 0 ∈ l := by
  rw [List.getD_eq_getElem?_getD, List.getElem?_eq_getElem h]
  exact List.getElem_mem h
theorem getD_at {l : List Int} {i : Nat} {v : V} (e : (l.map V.int)[i]? = some v) : v = .int (l.getD i 0) ∧ i < l.length := by
  rw [List.getElem?_map] at e
  cases q : l[i]? with
  | none =>
    rw [q] at e
    cases e
  | some z =>
    rw [q] at e
    rw [List.getD_eq_getElem?_getD, q]
    exact ⟨(Option.some.inj e).symm, (List.getElem?_eq_some_iff.mp q).1⟩
section
variable {P : Program} {w : World} {K : PySem.W.Frag} {mg : Str → Option Value} {base : Heap} {f : Addr} {fd : FuncData}
def spWei (K : PySem.W.Frag) : Sp := fun vs H Q _ => ∃ (a b : Addr) (g xs : List Int) (m n : Nat), vs = [.ref a, .ref b] ∧ SqT K H a (g.map V.int) ∧ SqT K H b (xs.map V.int) ∧ g.length = xs.length ∧ xs.length ≤ 1000 ∧ Bd m g ∧ Bd n xs ∧ m ≤ 900000 ∧ n ≤ 900000 ∧ ∀ H', Same H H' → Q (.int (dot g xs)) H'
abbrev nWei : List Str := ["form", "numbers", "one", "other"]
theorem scWei : FnScope nWei ["form", "numbers"] (defScope sWei) := ⟨rfl, rfl, rfl, by decide +kernel, rfl, by decide +kernel, by decide +kernel⟩
theorem ok_wei (F : FnP K "weighed" sWei f fd) (M : Mo mg) : FnOk P w K mg base CX0 1 f fd ["form", "numbers"] (spWei K) := by
  refine F.ok scWei (fun vs H Q E h => ?_) (fun cdv A outer s H vs Q E hr h => ?_)
  · obtain ⟨a, b, g, xs, m, n, rfl, _⟩ := h
    rfl
  · obtain ⟨a, b, g, xs, m, n, rfl, ha, hb, hl, h1, bg, bx, bm, bn, k⟩ := h
    refine ⟨_, PSs.nox <| pss_one (ps_ret (pe_callB (cr_sum rfl) (by rfl) M.sum (by decide +kernel) (pa_cons (pe_lc (own := [("one", 2), ("other", 3)]) (g := gTup K 2 (gCons (gName 2) (gCons (gName 3) gNil))) (tt := tYes) rfl scWei.nd (pi_zipA (by rfl) M.zip (pa_cons (pv 0) (pa_cons (pv 1) pa_nil))) (blkOk_by (N := nWei) (sc := defScope sWei) (by decide +kernel))
        (fun _ _ _ _ _ => pg_tup (by rfl) (pgs_cons (pg_name (i := 2) scWei.nd rfl (.inl rfl)) (pgs_cons (pg_name (i := 3) scWei.nd rfl (.inl rfl)) pgs_nil)))
        (fun _ _ _ _ _ => pts_nil) (fun _ _ _ _ _ => pe_op mulI (pv 2) (pv 3))) pa_nil))), ?_⟩
    refine ⟨_, rfl, _, rfl, a, b, _, _, rfl, .inr ⟨ha, hb, lcR (walk_zipT (xs := g.map V.int) (ys := xs.map V.int) (n := xs.length) (by rw [List.length_map, List.length_map, hl]; omega)) (n1 := h1) (fun H' s' => ⟨Same.seqT s' ha, Same.seqT s' hb⟩) (fun i y _ => y = .int (g.getD i 0 * xs.getD i 0)) (fun _ _ _ _ _ e => e) ?_ ?_⟩⟩
    · rintro D acc i x Ha Hb K2 hi s nD hD ⟨T, y, z, rfl, nT, rfl, ey, ez⟩ kk
      obtain ⟨rfl, l1⟩ := getD_at ey
      obtain ⟨rfl, l2⟩ := getD_at ez
      refine ⟨T, _, rfl, SqT.of upd_same, rfl, _, _, rfl, _, _, rfl, rfl, rfl, ?_⟩
      exact ⟨_, rfl, _, rfl, _, _, rfl, rfl, mul_ok (bg _ (getD_mem l1)) (bx _ (getD_mem l2)) (by omega) (by omega), kk _ _ (same_new nT) rfl⟩
    · rintro D Hb ys nw hlen he
      have ey : ys = ((List.range xs.length).map fun i => g.getD i 0 * xs.getD i 0).map V.int := by
        rw [List.map_map]
        exact list_of hlen he
      exact ⟨D, _, rfl, by rw [← ey]; exact SqL.of nw.2.1, k Hb nw.2.2⟩
/-! ### a vector in its least form -/
def spLow (K : PySem.W.Frag) : Sp := fun vs H Q _ => ∃ (a : Addr) (ns : List Int), vs = [.ref a] ∧ (SqL K H a (ns.map V.int) ∨ SqT K H a (ns.map V.int)) ∧ ns.length ≤ 1000 ∧ 0 < gcdF ns ∧ gcdF ns < 2 ^ 9000 ∧ ∀ b H', Same H H' → SqT K H' b ((lowF ns).map V.int) → Q (.ref b) H'
abbrev nLow : List Str := ["numbers", "common", "number"]
theorem scLow : FnScope nLow ["numbers"] (defScope sLow) := ⟨rfl, rfl, rfl, by decide +kernel, rfl, by decide +kernel, by decide +kernel⟩
theorem ok_low (F : FnP K "lowest" sLow f fd) (M : Mo mg) (gg : mg "gcd" = some (.builtin "math.gcd")) : FnOk P w K mg base CX0 1 f fd ["numbers"] (spLow K) := by
  refine F.ok scLow (fun vs H Q E h => ?_) (fun cdv A outer s H vs Q E hr h => ?_)
  · obtain ⟨a, ns, rfl, _⟩ := h
    rfl
  · obtain ⟨a, ns, rfl, ha, hl, g0, g9, k⟩ := h
    have gn : ∀ i, i < ns.length → gcdF (ns.take (i + 1)) = Nat.gcd (gcdF (ns.take i)) (ns.getD i 0).natAbs := fun i hi => by
      rw [List.take_add_one, List.getElem?_eq_getElem hi]
      show gcdF (ns.take i ++ [ns[i]]) = _
      rw [gcd_snoc, List.getD_eq_getElem?_getD, List.getElem?_eq_getElem hi]
      rfl
    have lg : ((gcdF ns : Nat) : Int).natAbs.log2 < 9000 := by
      rw [Int.natAbs_natCast]
      exact (Nat.log2_lt (by omega)).mpr g9
    rcases ha with ha | ha
    · refine ⟨_, PSs.nox <| pss_cons (ps_set (i := 1) scLow.nd rfl (.inr rfl) pe_int) <| pss_cons (ps_for PassesOwn.never rfl (pi_list (pv 0)) (pg_name (i := 2) scLow.nd rfl (.inl rfl)) (pss_one (ps_set (i := 1) scLow.nd rfl (.inr rfl) (pe_callBfun cr_gcd (by rfl) gg (pa_cons (pv 1) (pa_cons (pv 2) pa_nil))))))
        <| pss_one (ps_ret (pe_callTy call_tuple_of (by rfl) M.tuple (by decide +kernel) (pa_cons (pe_lc (own := [("number", 2)]) (g := gName 2) (tt := tYes) rfl scLow.nd (pi_list (pv 0)) (blkOk_by (N := nLow) (sc := defScope sLow) (by decide +kernel)) (fun _ _ _ _ _ => pg_name (i := 2) scLow.nd rfl (Or.inl rfl)) (fun _ _ _ _ _ => pts_nil)
          (fun _ _ _ _ _ => pe_op op_fdivW (pv 2) (pv 1))) pa_nil))), ?_⟩
      refine ⟨_, rfl, a, rfl, ⟨_, ha⟩, for_list (K := K) (a := a) (xs := ns.map V.int) (fun i σ H2 => ∃ c, σ = [some (.ref a), some (.int (gcdF (ns.take i) : Nat)), c] ∧ Same H H2) ⟨none, rfl, Same.refl H⟩ (fun i σ H2 _ ⟨_, _, s2⟩ => s2.seq ha) ?_ ?_⟩
      · rintro i y σ H2 hi ⟨c, rfl, s2⟩
        obtain ⟨rfl, l1⟩ := getD_at hi
        refine ⟨_, rfl, _, rfl, _, _, rfl, ?_⟩
        refine ⟨some (.int (ns.getD i 0)), ?_, s2⟩
        rw [gn i l1]
        rfl
      · rintro σ H2 ⟨c, rfl, s2⟩
        rw [List.length_map, List.take_length]
        refine ⟨_, rfl, a, rfl, ⟨_, s2.seq ha⟩, lcR (walk_list (xs := ns.map V.int)) (n1 := by rw [List.length_map]; exact hl) (fun H' s' => s'.seq (s2.seq ha)) (fun i y _ => y = .int (ns.getD i 0 / (gcdF ns : Int))) (fun _ _ _ _ _ e => e) ?_ ?_⟩
        · rintro D acc i x Ha Hb K2 hi s nD hD ⟨rfl, ex⟩ kk
          obtain ⟨rfl, l1⟩ := getD_at ex
          exact ⟨rfl, _, rfl, _, rfl, _, _, rfl, rfl, ⟨by omega, lg⟩, kk _ _ (Same.refl _) rfl⟩
        · rintro D Hb ys nw hlen he
          have ey : ys = (lowF ns).map V.int := by
            rw [list_of hlen he, List.length_map]
            unfold lowF
            apply List.ext_getElem
            · simp
            · intro i h1 h2
              simp only [List.length_map, List.length_range] at h1
              simp [List.getD_eq_getElem?_getD, List.getElem?_eq_getElem h1]
          refine ⟨D, _, rfl, .inl ⟨SqL.of nw.2.1, fun q1 nq1 => ?_⟩⟩
          exact k _ _ ((s2.trans nw.2.2).trans (same_new nq1)) (by rw [← ey]; exact SqT.of upd_same)
    · refine ⟨_, PSs.nox <| pss_cons (ps_set (i := 1) scLow.nd rfl (.inr rfl) pe_int) <| pss_cons (ps_for PassesOwn.never rfl (pi_tup (pv 0)) (pg_name (i := 2) scLow.nd rfl (.inl rfl)) (pss_one (ps_set (i := 1) scLow.nd rfl (.inr rfl) (pe_callBfun cr_gcd (by rfl) gg (pa_cons (pv 1) (pa_cons (pv 2) pa_nil))))))
        <| pss_one (ps_ret (pe_callTy call_tuple_of (by rfl) M.tuple (by decide +kernel) (pa_cons (pe_lc (own := [("number", 2)]) (g := gName 2) (tt := tYes) rfl scLow.nd (pi_tup (pv 0)) (blkOk_by (N := nLow) (sc := defScope sLow) (by decide +kernel)) (fun _ _ _ _ _ => pg_name (i := 2) scLow.nd rfl (Or.inl rfl)) (fun _ _ _ _ _ => pts_nil)
          (fun _ _ _ _ _ => pe_op op_fdivW (pv 2) (pv 1))) pa_nil))), ?_⟩
      refine ⟨_, rfl, a, rfl, ⟨_, ha⟩, for_it (walk_tup (K := K) (a := a) (xs := ns.map V.int)) (fun i σ H2 => ∃ c, σ = [some (.ref a), some (.int (gcdF (ns.take i) : Nat)), c] ∧ Same H H2) ⟨none, rfl, Same.refl H⟩ (fun i σ H2 _ ⟨_, _, s2⟩ => Same.seqT s2 ha) ?_ ?_⟩
      · rintro i y σ H2 _ _ ⟨c, rfl, s2⟩ ⟨rfl, hi⟩
        obtain ⟨rfl, l1⟩ := getD_at hi
        refine ⟨_, rfl, _, rfl, _, _, rfl, ?_⟩
        refine ⟨some (.int (ns.getD i 0)), ?_, s2⟩
        rw [gn i l1]
        rfl
      · rintro σ H2 ⟨c, rfl, s2⟩
        rw [List.length_map, List.take_length]
        refine ⟨_, rfl, a, rfl, ⟨_, Same.seqT s2 ha⟩, lcR (walk_tup (xs := ns.map V.int)) (n1 := by rw [List.length_map]; exact hl) (fun H' s' => Same.seqT s' (Same.seqT s2 ha)) (fun i y _ => y = .int (ns.getD i 0 / (gcdF ns : Int))) (fun _ _ _ _ _ e => e) ?_ ?_⟩
        · rintro D acc i x Ha Hb K2 hi s nD hD ⟨rfl, ex⟩ kk
          obtain ⟨rfl, l1⟩ := getD_at ex
          exact ⟨rfl, _, rfl, _, rfl, _, _, rfl, rfl, ⟨by omega, lg⟩, kk _ _ (Same.refl _) rfl⟩
        · rintro D Hb ys nw hlen he
          have ey : ys = (lowF ns).map V.int := by
            rw [list_of hlen he, List.length_map]
            unfold lowF
            apply List.ext_getElem
            · simp
            · intro i h1 h2
              simp only [List.length_map, List.length_range] at h1
              simp [List.getD_eq_getElem?_getD, List.getElem?_eq_getElem h1]
          refine ⟨D, _, rfl, .inl ⟨SqL.of nw.2.1, fun q1 nq1 => ?_⟩⟩
          exact k _ _ ((s2.trans nw.2.2).trans (same_new nq1)) (by rw [← ey]; exact SqT.of upd_same)
/-! ### a vector brought to a level -/
theorem dot_bd {f g : List Int} {m n : Nat} (hf : Bd m f) (hg : Bd n g) (hl : f.length = g.length) (h4 : g.length ≤ 4) : (dot f g).natAbs < 2 ^ (m + n + 3) := by
  have key : ∀ (k : Nat), k ≤ g.length → (((List.range k).map fun i => f.getD i 0 * g.getD i 0).sum).natAbs ≤ k * 2 ^ (m + n) := by
    intro k
    induction k with
    | zero => intro _; simp
    | succ k ih =>
      intro hk
      have h1 := ih (by omega)
      rw [List.range_succ, List.map_append, List.sum_append]
      have h2 : (f.getD k 0 * g.getD k 0).natAbs < 2 ^ (m + n) := wide_lt (hf _ (getD_mem (by omega))) (hg _ (getD_mem (by omega)))
      have h3 : ([k].map fun i => f.getD i 0 * g.getD i 0).sum = f.getD k 0 * g.getD k 0 := by simp
      rw [h3, Nat.succ_mul]
      have := Int.natAbs_add_le ((List.range k).map fun i => f.getD i 0 * g.getD i 0).sum (f.getD k 0 * g.getD k 0)
      omega
  have h := key g.length (Nat.le_refl _)
  have e : 2 ^ (m + n + 3) = 8 * 2 ^ (m + n) := by rw [Nat.pow_add, Nat.mul_comm]
  have p : 0 < 2 ^ (m + n) := Nat.two_pow_pos _
  have h5 : g.length * 2 ^ (m + n) ≤ 4 * 2 ^ (m + n) := Nat.mul_le_mul_right _ h4
  unfold dot
  omega
theorem comb_bd {hi va : Int} {a u : List Int} {m n : Nat} (h1 : hi.natAbs < 2 ^ m) (h2 : va.natAbs < 2 ^ m) (ha : Bd n a) (hu : Bd n u) (hl : a.length = u.length) : Bd (m + n + 1) (combF hi va a u) := by
  intro z hz
  obtain ⟨i, hi2, rfl⟩ := List.mem_map.mp hz
  have hi3 : i < a.length := List.mem_range.mp hi2
  have q1 := wide_lt h1 (ha _ (getD_mem hi3))
  have q2 := wide_lt h2 (hu _ (getD_mem (show i < u.length by omega)))
  have := Int.natAbs_sub_le (hi * a.getD i 0) (va * u.getD i 0)
  have e : 2 ^ (m + n + 1) = 2 * 2 ^ (m + n) := by rw [Nat.pow_succ, Nat.mul_comm]
  show (hi * a.getD i 0 - va * u.getD i 0).natAbs < _
  omega
def spLev (K : PySem.W.Frag) : Sp := fun vs H Q _ => ∃ (a u t : Addr) (ga gu gt : List Int), vs = [.ref a, .ref u, .ref t] ∧ SqT K H a (ga.map V.int) ∧ SqT K H u (gu.map V.int) ∧ SqT K H t (gt.map V.int) ∧ ga.length = gu.length ∧ gt.length = gu.length ∧ gu.length ≤ 4 ∧ Bd 4000 ga ∧ Bd 4000 gu ∧ Bd 400 gt ∧
  0 < gcdF (combF (dot gt gu) (dot gt ga) ga gu) ∧ ∀ b H', Same H H' → SqT K H' b ((levF ga gu gt).map V.int) → Q (.ref b) H'
abbrev nLev : List Str := ["arrow", "up", "test", "high", "value", "one", "other"]
theorem scLev : FnScope nLev ["arrow", "up", "test"] (defScope sLev) := ⟨rfl, rfl, rfl, by decide +kernel, rfl, by decide +kernel, by decide +kernel⟩
theorem ok_lev {fW fL : Addr} {dW dL : FuncData} (F : FnP K "_leveled" sLev f fd) (M : Mo mg) (gg : mg "gcd" = some (.builtin "math.gcd")) (FW : FnP K "weighed" sWei fW dW) (gW : mg "weighed" = some (.ref fW)) (FL : FnP K "lowest" sLow fL dL) (gL : mg "lowest" = some (.ref fL)) : FnOk P w K mg base CX0 2 f fd ["arrow", "up", "test"] (spLev K) := by
  have GW : FnOk P w K mg base CX0 1 fW dW ["form", "numbers"] (spWei K) := ok_wei FW M
  have bW : Binds K dW ["form", "numbers"] [] := FW.bindsN fun _ _ _ _ _ _ us hl => match us, hl with | [_, _], _ => rfl
  have GL : FnOk P w K mg base CX0 1 fL dL ["numbers"] (spLow K) := ok_low FL M gg
  have bL : Binds K dL ["numbers"] [] := FL.bindsN fun _ _ _ _ _ _ us hl => match us, hl with | [_], _ => rfl
  refine F.ok scLev (fun vs H Q E h => ?_) (fun cdv A outer s H vs Q E hr h => ?_)
  · obtain ⟨a, u, t, ga, gu, gt, rfl, _⟩ := h
    rfl
  · obtain ⟨a, u, t, ga, gu, gt, rfl, ha, hu, ht, l1, l2, l4, ba, bu, bt, g0, k⟩ := h
    have c1 : (dot gt gu).natAbs < 2 ^ 4403 := dot_bd bt bu l2 l4
    have c2 : (dot gt ga).natAbs < 2 ^ 4403 := dot_bd bt ba (by omega) (by omega)
    refine ⟨_, PSs.nox <| pss_cons (ps_set (i := 3) scLev.nd rfl (.inr rfl) (pe_call GW hr (by rfl) gW FW.kp bW .nil pass0 (pa_cons (pv 2) (pa_cons (pv 1) pa_nil))))
      <| pss_cons (ps_set (i := 4) scLev.nd rfl (.inr rfl) (pe_call GW hr (by rfl) gW FW.kp bW .nil pass0 (pa_cons (pv 2) (pa_cons (pv 0) pa_nil))))
      <| pss_one (ps_ret (pe_call GL hr (by rfl) gL FL.kp bL .nil pass0 (pa_cons (pe_lc (own := [("one", 5), ("other", 6)]) (g := gTup K 2 (gCons (gName 5) (gCons (gName 6) gNil))) (tt := tYes) rfl scLev.nd (pi_zipA (by rfl) M.zip (pa_cons (pv 0) (pa_cons (pv 1) pa_nil))) (blkOk_by (N := nLev) (sc := defScope sLev) (by decide +kernel))
        (fun _ _ _ _ _ => pg_tup (by rfl) (pgs_cons (pg_name (i := 5) scLev.nd rfl (.inl rfl)) (pgs_cons (pg_name (i := 6) scLev.nd rfl (.inl rfl)) pgs_nil)))
        (fun _ _ _ _ _ => pts_nil) (fun _ _ _ _ _ => pe_op op_sub (pe_op mulI (pv 3) (pv 5)) (pe_op mulI (pv 4) (pv 6)))) pa_nil))), ?_⟩
    refine ⟨_, rfl, _, rfl, t, u, gt, gu, 400, 4000, rfl, ht, hu, l2, by omega, bt, bu, by decide, by decide, fun H1 s1 => ?_⟩
    refine ⟨_, rfl, _, rfl, t, a, gt, ga, 400, 4000, rfl, Same.seqT s1 ht, Same.seqT s1 ha, by omega, by omega, bt, ba, by decide, by decide, fun H2 s2 => ?_⟩
    have s12 := s1.trans s2
    refine ⟨_, rfl, _, rfl, a, u, _, _, rfl, .inr ⟨Same.seqT s12 ha, Same.seqT s12 hu, lcR (walk_zipT (xs := ga.map V.int) (ys := gu.map V.int) (n := ga.length) (by rw [List.length_map, List.length_map, l1]; omega)) (n1 := by omega) (fun H' s' => ⟨Same.seqT s' (Same.seqT s12 ha), Same.seqT s' (Same.seqT s12 hu)⟩) (fun i y _ => y = .int (dot gt gu * ga.getD i 0 - dot gt ga * gu.getD i 0)) (fun _ _ _ _ _ e => e) ?_ ?_⟩⟩
    · rintro D acc i x Ha Hb K2 hi s nD hD ⟨T, y, z, rfl, nT, rfl, ey, ez⟩ kk
      obtain ⟨rfl, j1⟩ := getD_at ey
      obtain ⟨rfl, j2⟩ := getD_at ez
      refine ⟨T, _, rfl, SqT.of upd_same, rfl, _, _, rfl, _, _, rfl, rfl, rfl, ?_⟩
      refine ⟨_, rfl, _, rfl, _, _, rfl, rfl, mul_ok c1 (ba _ (getD_mem j1)) (by decide) (by decide), _, rfl, _, rfl, _, _, rfl, rfl, mul_ok c2 (bu _ (getD_mem j2)) (by decide) (by decide), _, _, rfl, rfl, kk _ _ (same_new nT) rfl⟩
    · rintro D Hb ys nw hlen he
      have ey : ys = (combF (dot gt gu) (dot gt ga) ga gu).map V.int := by
        unfold combF
        rw [List.map_map]
        exact list_of hlen he
      refine ⟨D, _, rfl, .inl (by rw [← ey]; exact SqL.of nw.2.1), ?_, g0, ?_, fun b H' s' hb => k b H' ((s12.trans nw.2.2).trans s') hb⟩
      · unfold combF
        rw [List.length_map, List.length_range]
        omega
      · exact Nat.lt_of_lt_of_le (gcd_small (comb_bd c1 c2 ba bu l1)) (Nat.pow_le_pow_right (by decide) (by decide))
end
end Pg
set_option Elab.async false
set_option linter.all false
set_option maxRecDepth 100000
set_option maxHeartbeats 4000000
namespace Rl
open PySem PySem.Spec PyProof.Rows L2 Gd
/-! comprehensions with a condition: which items are kept is told by b -/
def kept (b : Nat → Bool) (i : Nat) : List Nat := (List.range i).filter b
theorem kept_yes {b : Nat → Bool} {i : Nat} (h : b i = true) : kept b (i + 1) = kept b i ++ [i] := by
  unfold kept
  rw [List.range_succ, List.filter_append]
  simp [h]
theorem kept_no {b : Nat → Bool} {i : Nat} (h : b i = false) : kept b (i + 1) = kept b i := by
  unfold kept
  rw [List.range_succ, List.filter_append]
  simp [h]
theorem kept_le (b : Nat → Bool) (i : Nat) : (kept b i).length ≤ i := by
  have := List.length_filter_le b (List.range i)
  rw [List.length_range] at this
  exact this
section
variable {J : It} {n : Nat} {G : Hp → Prop} {Y : Nat → Hp → V → Hp → Prop}
theorem small5 {n : Nat} (h : n ≤ 100000) : n < sizeLine := Nat.lt_of_le_of_lt h (by decide)
theorem lcW (w : Walk J n G Y) {g : TG} {te : TE} {vs : List Nat} {σ : L2.St} {H1 : Hp} {Q : Addr → Hp → Prop} (n1 : n ≤ 100000) (hG : ∀ H, Same H1 H → G H) (E : Nat → V → Hp → Prop) (hE : ∀ i y H H', Same H H' → E i y H → E i y H')
    (turn : ∀ (D : Addr) (acc : List V) (i : Nat) (x : V) (H H' : Hp) (K : V → Hp → Prop), i < n → Same H1 H → H1 D = none → H D = some (.lst acc) → Y i H x H' → (∀ y H4, Same H H4 → E i y (delH H4 D) → K y H4) → g x (wipe σ vs) H' fun σ2 H2 => wipe σ2 vs = wipe σ vs ∧ te σ2 H2 K)
    (done : ∀ (D : Addr) (H' : Hp) (ys : List V), New H1 D (.lst ys) H' → ys.length = n → (∀ i y, ys[i]? = some y → E i y (delH H' D)) → Q D H') :
    ∀ D, H1 D = none → ∃ W : Nat → Nat → Hp → Prop, (∃ m, W 0 m (upd H1 D (.lst []))) ∧ ∀ i m H, W i m H →
      (J.stop i H ∧ Q D H) ∨ (J.go i H ∧ ∃ Nx : Hp → Prop, (∀ H', Nx H' → ∃ m', m' < m ∧ W (i + 1) m' H') ∧ ∀ x H', J.yld i H x H' → g x (wipe σ vs) H' fun σ2 H2 => wipe σ2 vs = wipe σ vs ∧ tYes σ2 H2 fun b H3 =>
        if b = true then te σ2 H3 fun y H4 => ∃ acc, H4 D = some (.lst acc) ∧ acc.length < sizeLine ∧ Nx (upd H4 D (.lst (acc ++ [y]))) else Nx H3) := by
  intro D hD
  refine lc_it w (Qd := fun H => Q D H) (fun i H => Same H1 H ∧ ∃ acc, H D = some (.lst acc) ∧ acc.length = i ∧ ∀ j y, acc[j]? = some y → E j y (delH H D)) ⟨same_new hD, [], upd_same, rfl, fun j y e => by simp at e⟩ (fun i H _ ⟨s, _⟩ => hG H s) ?_ ?_
  · rintro i x H H' hi ⟨s, acc, ha, hl, he⟩ y
    refine turn D acc i x H H' _ hi s hD ha y fun v H4 s4 e4 => ?_
    have hD4 := s4 _ _ ha
    refine ⟨acc, hD4, small5 (by omega), fun b u e => ?_, acc ++ [v], upd_same, by rw [List.length_append, hl]; rfl, fun j z ej => ?_⟩
    · rw [upd_ne (ne_of_none e hD)]
      exact s4 _ _ (s b u e)
    · have up : ∀ {Ha : Hp}, Same Ha H4 → Same (delH Ha D) (delH (upd H4 D (.lst (acc ++ [v]))) D) := fun {Ha} sa b u e => by
        by_cases q : b = D
        · rw [q, delH_same] at e
          cases e
        · rw [delH_ne q] at e
          rw [delH_ne q, upd_ne q]
          exact sa b u e
      by_cases q : j < acc.length
      · rw [List.getElem?_append_left q] at ej
        exact hE _ _ _ _ (up s4) (he j z ej)
      · rw [List.getElem?_append_right (by omega)] at ej
        have e0 : j - acc.length = 0 := by
          cases r : j - acc.length with
          | zero => rfl
          | succ m =>
            rw [r] at ej
            simp at ej
        rw [e0] at ej
        have ez : v = z := by simpa using ej
        subst ez
        have ej2 : j = i := by omega
        subst ej2
        exact hE _ _ _ _ (up (Same.refl _)) e4
  · rintro H ⟨s, acc, ha, hl, he⟩
    exact done D H acc ⟨hD, ha, s⟩ hl he
theorem lcF (w : Walk J n G Y) {g : TG} {tt : TT} {te : TE} {vs : List Nat} {σ : L2.St} {H1 : Hp} {Q : Addr → Hp → Prop} (n1 : n ≤ 100000) (hG : ∀ H, Same H1 H → G H) (b : Nat → Bool) (E : Nat → V → Hp → Prop) (hE : ∀ i y H H', Same H H' → E i y H → E i y H')
    (turn : ∀ (D : Addr) (acc : List V) (i : Nat) (x : V) (H H' : Hp) (K : V → Hp → Prop) (S : Hp → Prop), i < n → Same H1 H → H1 D = none → H D = some (.lst acc) → Y i H x H' → (∀ y H4, b i = true → Same H H4 → E i y (delH H4 D) → K y H4) → (∀ H4, b i = false → Same H H4 → S H4) →
      g x (wipe σ vs) H' fun σ2 H2 => wipe σ2 vs = wipe σ vs ∧ tt σ2 H2 fun bb H3 => if bb = true then te σ2 H3 K else S H3)
    (done : ∀ (D : Addr) (H' : Hp) (ys : List V), New H1 D (.lst ys) H' → ys.length = (kept b n).length → (∀ (j : Nat) (y : V), ys[j]? = some y → ∃ k, (kept b n)[j]? = some k ∧ E k y (delH H' D)) → Q D H') :
    ∀ D, H1 D = none → ∃ W : Nat → Nat → Hp → Prop, (∃ m, W 0 m (upd H1 D (.lst []))) ∧ ∀ i m H, W i m H →
      (J.stop i H ∧ Q D H) ∨ (J.go i H ∧ ∃ Nx : Hp → Prop, (∀ H', Nx H' → ∃ m', m' < m ∧ W (i + 1) m' H') ∧ ∀ x H', J.yld i H x H' → g x (wipe σ vs) H' fun σ2 H2 => wipe σ2 vs = wipe σ vs ∧ tt σ2 H2 fun b H3 =>
        if b = true then te σ2 H3 fun y H4 => ∃ acc, H4 D = some (.lst acc) ∧ acc.length < sizeLine ∧ Nx (upd H4 D (.lst (acc ++ [y]))) else Nx H3) := by
  intro D hD
  refine lc_it w (Qd := fun H => Q D H) (fun i H => Same H1 H ∧ ∃ acc, H D = some (.lst acc) ∧ acc.length = (kept b i).length ∧ ∀ (j : Nat) (y : V), acc[j]? = some y → ∃ k, (kept b i)[j]? = some k ∧ E k y (delH H D)) ⟨same_new hD, [], upd_same, rfl, fun j y e => by simp at e⟩ (fun i H _ ⟨s, _⟩ => hG H s) ?_ ?_
  · rintro i x H H' hi ⟨s, acc, ha, hl, he⟩ y
    have lk := kept_le b i
    refine turn D acc i x H H' _ _ hi s hD ha y (fun v H4 bi s4 e4 => ?_) (fun H4 bi s4 => ?_)
    · have hD4 := s4 _ _ ha
      refine ⟨acc, hD4, small5 (by omega), fun b u e => ?_, acc ++ [v], upd_same, ?_, fun j z ej => ?_⟩
      · rw [upd_ne (ne_of_none e hD)]
        exact s4 _ _ (s b u e)
      · rw [kept_yes bi, List.length_append, List.length_append, hl]
        rfl
      · have up : ∀ {Ha : Hp}, Same Ha H4 → Same (delH Ha D) (delH (upd H4 D (.lst (acc ++ [v]))) D) := fun {Ha} sa b u e => by
          by_cases q : b = D
          · rw [q, delH_same] at e
            cases e
          · rw [delH_ne q] at e
            rw [delH_ne q, upd_ne q]
            exact sa b u e
        rw [kept_yes bi]
        by_cases q : j < acc.length
        · rw [List.getElem?_append_left q] at ej
          obtain ⟨k, ek, hk⟩ := he j z ej
          exact ⟨k, by rw [List.getElem?_append_left (by omega)]; exact ek, hE _ _ _ _ (up s4) hk⟩
        · rw [List.getElem?_append_right (by omega)] at ej
          have e0 : j - acc.length = 0 := by
            cases r : j - acc.length with
            | zero => rfl
            | succ m =>
              rw [r] at ej
              simp at ej
          rw [e0] at ej
          have ez : v = z := by simpa using ej
          subst ez
          refine ⟨i, ?_, hE _ _ _ _ (up (Same.refl _)) e4⟩
          rw [List.getElem?_append_right (by omega), show j - (kept b i).length = 0 by omega]
          rfl
    · refine ⟨s.trans s4, acc, s4 _ _ ha, by rw [kept_no bi]; exact hl, fun j z ej => ?_⟩
      obtain ⟨k, ek, hk⟩ := he j z ej
      refine ⟨k, by rw [kept_no bi]; exact ek, hE _ _ _ _ ?_ hk⟩
      intro b u e
      by_cases q : b = D
      · rw [q, delH_same] at e
        cases e
      · rw [delH_ne q] at e
        rw [delH_ne q]
        exact s4 b u e
  · rintro H ⟨s, acc, ha, hl, he⟩
    exact done D H acc ⟨hD, ha, s⟩ hl he
end
/-- the items kept, one by one -/
theorem filter_kept {α : Type} (d : α) (p : α → Bool) : ∀ (gs : List α), (kept (fun k => p (gs.getD k d)) gs.length).map (fun k => gs.getD k d) = gs.filter p := by
  intro gs
  have key : ∀ n, n ≤ gs.length → (kept (fun k => p (gs.getD k d)) n).map (fun k => gs.getD k d) = (gs.take n).filter p := by
    intro n
    induction n with
    | zero => intro _; rfl
    | succ n ih =>
      intro hn
      have e : gs.getD n d = gs[n] := by rw [List.getD_eq_getElem?_getD, List.getElem?_eq_getElem (show n < gs.length by omega)]; rfl
      rw [List.take_add_one, List.getElem?_eq_getElem (show n < gs.length by omega), List.filter_append, ← ih (by omega)]
      cases q : p gs[n] with
      | true =>
        rw [kept_yes (by rw [e, q]), List.map_append]
        show _ ++ [gs.getD n d] = _
        rw [e]
        simp [q]
      | false =>
        rw [kept_no (by rw [e, q])]
        simp [q]
  rw [key gs.length (Nat.le_refl _), List.take_length]
end Rl
set_option Elab.async false
set_option linter.all false
set_option maxRecDepth 100000
set_option maxHeartbeats 8000000
set_option exponentiation.threshold 10000
/-! what is found, in plain lists -/
namespace Dd
/-- two arrows beside one another: just these two lie where both lie -/
def commF (a b : List Int) (done : List (List Int)) : List (List Int) := done.filter fun t => decide (dot t a = 0) && decide (dot t b = 0)
def betwF (cm found : List (List Int)) : List (List Int) := found.filter fun c => cm.all fun t => decide (dot t c = 0)
def nbF (a b : List Int) (found done : List (List Int)) : Bool := decide ((betwF (commF a b done) found).length = 2)
/-- vectors of one length -/
def Ln (n : Nat) (gs : List (List Int)) : Prop := ∀ g ∈ gs, g.length = n
def Bds (b : Nat) (gs : List (List Int)) : Prop := ∀ g ∈ gs, Bd b g
end Dd
namespace Pg
open PySem PySem.Spec PyProof.Rows L2 Gd Rl Te Vd Fx RZ Dd
abbrev sNb : Stmt := top 22
/-- references to vectors -/
def VA (K : PySem.W.Frag) (H : Hp) (xs : List V) (gs : List (List Int)) : Prop := xs.length = gs.length ∧ ∀ (i : Nat) (x : V), xs[i]? = some x → ∃ a, x = .ref a ∧ SqT K H a ((gs.getD i []).map V.int)
theorem VA.same {K : PySem.W.Frag} {H H' : Hp} {xs : List V} {gs : List (List Int)} (s : Same H H') (h : VA K H xs gs) : VA K H' xs gs := ⟨h.1, fun i x e => by
  obtain ⟨a, rfl, h2⟩ := h.2 i x e
  exact ⟨a, rfl, Same.seqT s h2⟩⟩
theorem gD_mem {gs : List (List Int)} {i : Nat} (h : i < gs.length) : gs.getD i [] ∈ gs := by
  rw [List.getD_eq_getElem?_getD, List.getElem?_eq_getElem h]
  exact List.getElem_mem h
theorem VA.at {K : PySem.W.Frag} {H : Hp} {xs : List V} {gs : List (List Int)} (h : VA K H xs gs) {i : Nat} {x : V} (e : xs[i]? = some x) : ∃ a, x = .ref a ∧ SqT K H a ((gs.getD i []).map V.int) ∧ gs.getD i [] ∈ gs := by
  obtain ⟨a, rfl, h2⟩ := h.2 i x e
  have := (List.getElem?_eq_some_iff.mp e).1
  exact ⟨a, rfl, h2, gD_mem (by rw [← h.1]; exact this)⟩
/-- what a comprehension with a condition keeps of vectors -/
theorem VA.kept {K : PySem.W.Frag} {H : Hp} {gs : List (List Int)} {b : Nat → Bool} {ys : List V} {E : Nat → V → Prop} {e : Nat → List Int} (hl : ys.length = (kept b gs.length).length) (h : ∀ (j : Nat) (y : V), ys[j]? = some y → ∃ k, (kept b gs.length)[j]? = some k ∧ ∃ a, y = .ref a ∧ SqT K H a ((e k).map V.int)) : VA K H ys ((Rl.kept b gs.length).map e) := by
  refine ⟨by rw [List.length_map]; exact hl, fun j y ej => ?_⟩
  obtain ⟨k, ek, a, rfl, ha⟩ := h j y ej
  refine ⟨a, rfl, ?_⟩
  rw [List.getD_eq_getElem?_getD, List.getElem?_map, ek]
  exact ha
/-! the scope within a comprehension, as it stands in its def -/
def lcSc : Expr → Scope
  | .ListComp _ _ sc _ => sc
  | _ => defScope (.Pass ⟨0, 0, 0, 0⟩)
def asgV : Stmt → Expr
  | .Assign _ e _ => e
  | _ => .Name "" ⟨0, 0, 0, 0⟩
def rlSc (sc out : Scope) : Scope := { sc with names := sc.names.map fun (n, k) => if (k == .free && out.kind == .function && out.names.lookup n == some .cell) then (n, .cell) else (n, k) }
theorem same_del {H H' : Hp} {D : Addr} (s : Same H H') (hD : H D = none) : Same H (delH H' D) := fun b o e => by
  rw [delH_ne (ne_of_none e hD)]
  exact s b o e
theorem del_same {H : Hp} {D : Addr} : Same (delH H D) H := fun b o e => by
  by_cases q : b = D
  · rw [q, delH_same] at e
    cases e
  · rw [delH_ne q] at e
    exact e
theorem gD_all (l : List (List Int)) (p : List Int → Bool) : ((List.range l.length).map fun i => p (l.getD i [])).all id = l.all p := by
  have e : ((List.range l.length).map fun i => p (l.getD i [])) = l.map p := by
    apply List.ext_getElem
    · simp
    · intro i h1 h2
      simp only [List.length_map, List.length_range] at h1
      simp [List.getD_eq_getElem?_getD, List.getElem?_eq_getElem h1]
  rw [e, List.all_map]
  rfl
section
variable {P : Program} {w : World} {K : PySem.W.Frag} {mg : Str → Option Value} {base : Heap} {f : Addr} {fd : FuncData}
def spNb (K : PySem.W.Frag) : Sp := fun vs H Q _ => ∃ (a b l d : Addr) (ga gb : List Int) (xs ys : List V) (fs ds : List (List Int)) (n : Nat), vs = [.ref a, .ref b, .ref l, .ref d] ∧ SqT K H a (ga.map V.int) ∧ SqT K H b (gb.map V.int) ∧ SqL K H l xs ∧ VA K H xs fs ∧ SqL K H d ys ∧ VA K H ys ds ∧
  n ≤ 4 ∧ ga.length = n ∧ gb.length = n ∧ Ln n fs ∧ Ln n ds ∧ Bd 4000 ga ∧ Bd 4000 gb ∧ Bds 4000 fs ∧ Bds 400 ds ∧ fs.length ≤ 100000 ∧ ds.length ≤ 100000 ∧ ∀ H', Same H H' → Q (.bl (nbF ga gb fs ds)) H'
abbrev nNb : List Str := ["one", "other", "found", "done", "common", "between", "test", "third"]
theorem scNb : FnScope nNb ["one", "other", "found", "done"] (defScope sNb) := ⟨rfl, rfl, rfl, by decide +kernel, rfl, by decide +kernel, by decide +kernel⟩
theorem eq0 (z : Int) : decide (V.int z = V.int 0) = decide (z = 0) := decide_eq_decide.mpr ⟨fun e => V.int.inj e, fun e => by rw [e]⟩
theorem ok_nb {fW : Addr} {dW : FuncData} (F : FnP K "_are_neighbours" sNb f fd) (M : Mo mg) (FW : FnP K "weighed" sWei fW dW) (gW : mg "weighed" = some (.ref fW)) : FnOk P w K mg base CX0 2 f fd ["one", "other", "found", "done"] (spNb K) := by
  have GW : FnOk P w K mg base CX0 1 fW dW ["form", "numbers"] (spWei K) := ok_wei FW M
  have bW : Binds K dW ["form", "numbers"] [] := FW.bindsN fun _ _ _ _ _ _ us hl => match us, hl with | [_, _], _ => rfl
  refine F.ok scNb (fun vs H Q E h => ?_) (fun cdv A outer s H vs Q E hr h => ?_)
  · obtain ⟨a, b, l, d, ga, gb, xs, ys, fs, ds, n, rfl, _⟩ := h
    rfl
  · obtain ⟨a, b, l, d, ga, gb, xs, ys, fs, ds, n, rfl, ha, hb, hl, hxs, hd, hys, n4, la, lb, lf, ld, ba, bb, bf, bd, fl, dl, k⟩ := h
    refine ⟨_, PSs.nox <| pss_cons (ps_set (i := 4) scNb.nd rfl (.inr rfl) (pe_lc (own := [("test", 6)]) (g := gName 6) rfl scNb.nd (pi_list (pv 3)) (blkOk_by (N := nNb) (sc := defScope sNb) (by decide +kernel)) (fun _ _ _ _ _ => pg_name (i := 6) scNb.nd rfl (Or.inl rfl))
          (fun _ _ _ _ _ => pts_one (PW.pt (pw_and (pt_cmpR op_eq (pe_call GW hr (by rfl) gW FW.kp bW .nil pass0 (pa_cons (pv 6) (pa_cons (pv 0) pa_nil))) pe_int (nomark _)) (pw_and1 (pt_cmpR op_eq (pe_call GW hr (by rfl) gW FW.kp bW .nil pass0 (pa_cons (pv 6) (pa_cons (pv 1) pa_nil))) pe_int (nomark _))))))
          (fun _ _ _ _ _ => pv 6)))
      <| pss_cons (ps_setLc (i := 5) (own := [("third", 7)]) (g := gName 7) rfl scNb.nd rfl rfl (sw_true rfl rfl rfl (by decide +kernel)) (pi_list (pv 2)) (blkOk_by (N := nNb) (sc := defScope sNb) (by decide +kernel)) (fun _ _ _ _ _ => pg_name (i := 7) scNb.nd rfl (Or.inr rfl))
          (fun _ _ _ _ _ => pts_one (pt_val (pe_callB (id := "all") (r := rAll K) (cr_all rfl) (by rfl) M.all (by decide +kernel) (pa_cons (pe_lc (own := [("test", 6)]) (g := gName 6) (tt := tYes) (wi := iList K (tVar 4)) rfl scNb.nd (pi_list (pv 4)) (blkOk_by (N := nNb) (sc := rlSc (lcSc (asgV ((defBody sNb).getD 1 (.Pass ⟨0, 0, 0, 0⟩)))) (defScope sNb)) (by decide +kernel)) (fun _ _ _ _ _ => pg_name (i := 6) scNb.nd rfl (Or.inl rfl)) (fun _ _ _ _ _ => pts_nil)
            (fun _ _ _ _ _ => pe_cmpR op_eq (pe_call GW hr (by rfl) gW FW.kp bW .nil pass0 (pa_cons (pv 6) (pa_cons (pv 7) pa_nil))) pe_int (nomark _))) pa_nil))))
          (fun _ _ _ _ _ => pv 7))
      <| pss_one (ps_ret (pe_cmpR op_eq (pe_callB call_len (by rfl) M.len PySem.boot_len (pa_cons (pv 5) pa_nil)) pe_int (nomark _))), ?_⟩
    refine ⟨_, rfl, d, rfl, ⟨_, hd⟩, lcF (walk_list (xs := ys)) (n1 := by rw [hys.1]; exact dl) (fun H' s' => s'.seq hd) (fun i => decide (dot (ds.getD i []) ga = 0) && decide (dot (ds.getD i []) gb = 0)) (fun i y H => ∃ a, y = .ref a ∧ SqT K H a ((ds.getD i []).map V.int)) (fun i y H H' s' ⟨a, e, h2⟩ => ⟨a, e, Same.seqT s' h2⟩) ?_ ?_⟩
    · rintro D acc i x Ha Hb K2 S hi s nD hD ⟨rfl, ex⟩ kk ks
      obtain ⟨t, rfl, ht, hm⟩ := hys.at ex
      have ltt := ld _ hm
      refine ⟨rfl, _, rfl, _, rfl, t, a, _, ga, 400, 4000, rfl, Same.seqT s ht, Same.seqT s ha, by omega, by omega, bd _ hm, ba, by decide, by decide, fun H1 s1 => ⟨rfl, _, rfl, ?_⟩⟩
      by_cases h1 : dot (ds.getD i []) ga = 0
      · refine iteDY (c := V.int (dot (ds.getD i []) ga) = V.int 0) (by rw [h1]) ?_
        have s01 := s.trans s1
        refine ⟨_, rfl, _, rfl, t, b, _, gb, 400, 4000, rfl, Same.seqT s01 ht, Same.seqT s01 hb, by omega, by omega, bd _ hm, bb, by decide, by decide, fun H2 s2 => ⟨rfl, _, rfl, ?_⟩⟩
        by_cases h2 : dot (ds.getD i []) gb = 0
        · refine iteDY (c := V.int (dot (ds.getD i []) gb) = V.int 0) (by rw [h2]) ?_
          exact ⟨_, rfl, kk _ _ (by rw [h1, h2]; rfl) (s1.trans s2) ⟨t, rfl, Same.seqT (same_del (s01.trans s2) nD) ht⟩⟩
        · refine iteDN (c := V.int (dot (ds.getD i []) gb) = V.int 0) (fun e => h2 (V.int.inj e)) ?_
          exact ks _ (by rw [decide_eq_false h2, Bool.and_false]) (s1.trans s2)
      · refine iteDN (c := V.int (dot (ds.getD i []) ga) = V.int 0) (fun e => h1 (V.int.inj e)) ?_
        exact ks _ (by rw [decide_eq_false h1, Bool.false_and]) s1
    · rintro D Hb cs nw hlen he
      rw [hys.1] at hlen he
      have hcs : VA K Hb cs (commF ga gb ds) := by
        have h2 := VA.kept (K := K) (H := Hb) (gs := ds) (b := fun i => decide (dot (ds.getD i []) ga = 0) && decide (dot (ds.getD i []) gb = 0)) (ys := cs) (e := fun k => ds.getD k []) (E := fun _ _ => True) hlen fun j y ej => by
          obtain ⟨k, ek, a, e, h3⟩ := he j y ej
          exact ⟨k, ek, a, e, Same.seqT del_same h3⟩
        rw [filter_kept [] (fun t => decide (dot t ga = 0) && decide (dot t gb = 0)) ds] at h2
        exact h2
      have hcd : ∀ g ∈ commF ga gb ds, g ∈ ds := fun g hg => (List.mem_filter.mp hg).1
      have hcl : (commF ga gb ds).length ≤ 100000 := Nat.le_trans (List.length_filter_le _ _) dl
      have sb := nw.2.2
      refine ⟨_, rfl, l, rfl, ⟨_, sb.seq hl⟩, lcF (walk_list (xs := xs)) (n1 := by rw [hxs.1]; exact fl) (fun H' s' => s'.seq (sb.seq hl)) (fun i => (commF ga gb ds).all fun t => decide (dot t (fs.getD i []) = 0)) (fun i y H => ∃ a, y = .ref a ∧ SqT K H a ((fs.getD i []).map V.int)) (fun i y H H' s' ⟨a, e, h2⟩ => ⟨a, e, Same.seqT s' h2⟩) ?_ ?_⟩
      · rintro D2 acc i x Ha Hc K2 S hi s nD hD ⟨rfl, ex⟩ kk ks
        obtain ⟨t, rfl, ht, hm⟩ := (hxs.same sb).at ex
        have ltt := lf _ hm
        refine ⟨rfl, _, rfl, D, rfl, ⟨_, SqL.of (s _ _ nw.2.1)⟩, lcW (walk_list (xs := cs)) (n1 := by rw [hcs.1]; exact hcl) (fun H' s' => SqL.of (s' _ _ (s _ _ nw.2.1))) (fun j y _ => y = .bl (decide (dot ((commF ga gb ds).getD j []) (fs.getD i []) = 0))) (fun _ _ _ _ _ e => e) ?_ ?_⟩
        · rintro D3 acc3 j x3 Ha3 Hb3 K3 hj s3 nD3 hD3 ⟨rfl, ex3⟩ kk3
          obtain ⟨u, rfl, hu, hmu⟩ := (hcs.same s).at ex3
          have lu := ld _ (hcd _ hmu)
          refine ⟨rfl, _, rfl, _, rfl, u, t, _, _, 400, 4000, rfl, Same.seqT s3 hu, Same.seqT (s.trans s3) ht, by omega, by omega, bd _ (hcd _ hmu), bf _ hm, by decide, by decide, fun H1 s1 => ⟨rfl, kk3 _ _ s1 ?_⟩⟩
          rw [eq0]
        · rintro D3 Hd zs nw3 hlen3 he3
          have ez : zs = ((List.range (commF ga gb ds).length).map fun j => decide (dot ((commF ga gb ds).getD j []) (fs.getD i []) = 0)).map V.bl := by
            rw [List.map_map]
            exact list_of (by rw [hlen3, hcs.1]) he3
          refine ⟨D3, _, rfl, by rw [← ez]; exact SqL.of nw3.2.1, _, rfl, ?_⟩
          rw [gD_all (commF ga gb ds) (fun t => decide (dot t (fs.getD i []) = 0))]
          cases hq : (commF ga gb ds).all fun t => decide (dot t (fs.getD i []) = 0) with
          | true => exact iteT ⟨_, rfl, kk _ _ hq nw3.2.2 ⟨t, rfl, Same.seqT (same_del (s.trans nw3.2.2) nD) ht⟩⟩
          | false => exact iteF (ks _ hq nw3.2.2)
      · rintro D2 Hc bs nw2 hlen2 he2
        rw [hxs.1] at hlen2
        refine ⟨_, rfl, _, bs.length, rfl, .inl ⟨_, SqL.of nw2.2.1, rfl⟩, rfl, ?_⟩
        have e := k Hc (sb.trans nw2.2.2)
        have el : bs.length = (betwF (commF ga gb ds) fs).length := by
          rw [hlen2]
          unfold betwF
          rw [← filter_kept [] (fun c => (commF ga gb ds).all fun t => decide (dot t c = 0)) fs, List.length_map]
        rw [el]
        unfold nbF at e
        rw [show decide (V.int (((betwF (commF ga gb ds) fs).length : Nat) : Int) = V.int 2) = decide ((betwF (commF ga gb ds) fs).length = 2) from decide_eq_decide.mpr ⟨fun q => by have := V.int.inj q; omega, fun q => by rw [q]; rfl⟩]
        exact e
end
end Pg
set_option Elab.async false
set_option linter.all false
set_option maxRecDepth 100000
set_option maxHeartbeats 8000000
set_option exponentiation.threshold 10000
namespace Dd
open Rl
def condF (fs ds : List (List Int)) (t : List Int) (i j : Nat) : Bool := decide (0 < dot t (fs.getD i [])) && (decide (dot t (fs.getD j []) < 0) && nbF (fs.getD i []) (fs.getD j []) fs ds)
def rowF (fs ds : List (List Int)) (t : List Int) (i n : Nat) : List (List Int) := (kept (condF fs ds t i) n).map fun j => levF (fs.getD j []) (fs.getD i []) t
def newF (fs ds : List (List Int)) (t : List Int) (n : Nat) : List (List Int) := (List.range n).flatMap fun i => rowF fs ds t i fs.length
def cutA (fs ds : List (List Int)) (t : List Int) : List (List Int) := fs.filter (fun a => decide (0 ≤ dot t a)) ++ newF fs ds t fs.length
theorem new_succ (fs ds : List (List Int)) (t : List Int) (n : Nat) : newF fs ds t (n + 1) = newF fs ds t n ++ rowF fs ds t n fs.length := by
  unfold newF
  rw [List.range_succ, List.flatMap_append]
  simp
theorem row_le (fs ds : List (List Int)) (t : List Int) (i n : Nat) : (rowF fs ds t i n).length ≤ n := by
  unfold rowF
  rw [List.length_map]
  exact kept_le _ _
theorem new_le (fs ds : List (List Int)) (t : List Int) : ∀ n, (newF fs ds t n).length ≤ n * fs.length
  | 0 => by simp [newF]
  | n + 1 => by
    rw [new_succ, List.length_append, Nat.succ_mul]
    have := new_le fs ds t n
    have := row_le fs ds t n fs.length
    omega
/-- no pair of arrows falls together -/
def Apart (fs ds : List (List Int)) (t : List Int) : Prop := ∀ i j, i < fs.length → j < fs.length → 0 < dot t (fs.getD i []) → dot t (fs.getD j []) < 0 → 0 < gcdF (combF (dot t (fs.getD i [])) (dot t (fs.getD j [])) (fs.getD j []) (fs.getD i []))
end Dd
namespace Pg
open PySem PySem.Spec PyProof.Rows L2 Gd Rl Te Vd Fx RZ Dd
abbrev sCa : Stmt := top 21
theorem VA.push {K : PySem.W.Frag} {H : Hp} {xs : List V} {gs : List (List Int)} {a : Addr} {g : List Int} (h : VA K H xs gs) (ha : SqT K H a (g.map V.int)) : VA K H (xs ++ [.ref a]) (gs ++ [g]) := by
  refine ⟨by rw [List.length_append, List.length_append, h.1]; rfl, fun i x e => ?_⟩
  by_cases q : i < xs.length
  · rw [List.getElem?_append_left q] at e
    obtain ⟨b, rfl, hb⟩ := h.2 i x e
    refine ⟨b, rfl, ?_⟩
    rw [List.getD_eq_getElem?_getD, List.getElem?_append_left (by rw [← h.1]; exact q), ← List.getD_eq_getElem?_getD]
    exact hb
  · rw [List.getElem?_append_right (by omega)] at e
    have e0 : i - xs.length = 0 := by
      cases r : i - xs.length with
      | zero => rfl
      | succ m =>
        rw [r] at e
        simp at e
    rw [e0] at e
    have ez : V.ref a = x := by simpa using e
    subst ez
    refine ⟨a, rfl, ?_⟩
    rw [List.getD_eq_getElem?_getD, List.getElem?_append_right (by rw [← h.1]; omega), ← h.1, e0]
    exact ha
/-! what is no list stays -/
def Nl (H H' : Hp) : Prop := ∀ b o, H b = some o → (∀ xs, o ≠ .lst xs) → H' b = some o
theorem nl_same {H H' : Hp} (s : Same H H') : Nl H H' := fun b o e _ => s b o e
theorem nl_upd {H : Hp} {l : Addr} {X Y : List V} (h : H l = some (.lst X)) : Nl H (upd H l (.lst Y)) := fun b o e n => by
  rw [upd_ne (fun q => by rw [q, h] at e; cases e; exact n _ rfl)]
  exact e
theorem seqT_nl {K : PySem.W.Frag} {H H' : Hp} {a : Addr} {xs : List V} (s : Nl H H') (h : SqT K H a xs) : SqT K H' a xs := by
  rcases h with (h | ⟨o, h⟩) | h
  · exact .inl (.inl (s _ _ h fun _ q => nomatch q))
  · exact .inl (.inr ⟨o, s _ _ h fun _ q => nomatch q⟩)
  · exact .inr h
theorem VA.nl {K : PySem.W.Frag} {H H' : Hp} {xs : List V} {gs : List (List Int)} (s : Nl H H') (h : VA K H xs gs) : VA K H' xs gs := ⟨h.1, fun i x e => by
  obtain ⟨a, rfl, h2⟩ := h.2 i x e
  exact ⟨a, rfl, seqT_nl s h2⟩⟩
section
variable {P : Program} {w : World} {K : PySem.W.Frag} {mg : Str → Option Value} {base : Heap} {f : Addr} {fd : FuncData}
def spCa (K : PySem.W.Frag) : Sp := fun vs H Q _ => ∃ (l d t : Addr) (gt : List Int) (xs ys : List V) (fs ds : List (List Int)) (n : Nat), vs = [.ref l, .ref d, .ref t] ∧ SqT K H t (gt.map V.int) ∧ SqL K H l xs ∧ VA K H xs fs ∧ SqL K H d ys ∧ VA K H ys ds ∧
  n ≤ 4 ∧ gt.length = n ∧ Ln n fs ∧ Ln n ds ∧ Bd 400 gt ∧ Bds 4000 fs ∧ Bds 400 ds ∧ fs.length ≤ 2000 ∧ ds.length ≤ 1000 ∧ Apart fs ds gt ∧ ∀ r zs H', Same H H' → H' r = some (.lst zs) → H r = none → VA K H' zs (cutA fs ds gt) → Q (.ref r) H'
abbrev nCa : List Str := ["found", "done", "test", "left", "up", "down", "arrow"]
theorem scCa : FnScope nCa ["found", "done", "test"] (defScope sCa) := ⟨rfl, rfl, rfl, by decide +kernel, rfl, by decide +kernel, by decide +kernel⟩
theorem ok_ca {fW fL fV fN : Addr} {dW dL dV dN : FuncData} (F : FnP K "_cut_arrows" sCa f fd) (M : Mo mg) (gg : mg "gcd" = some (.builtin "math.gcd")) (FW : FnP K "weighed" sWei fW dW) (gW : mg "weighed" = some (.ref fW)) (FL : FnP K "lowest" sLow fL dL) (gL : mg "lowest" = some (.ref fL))
    (FV : FnP K "_leveled" sLev fV dV) (gV : mg "_leveled" = some (.ref fV)) (FN : FnP K "_are_neighbours" sNb fN dN) (gN : mg "_are_neighbours" = some (.ref fN)) : FnOk P w K mg base CX0 3 f fd ["found", "done", "test"] (spCa K) := by
  have GW : FnOk P w K mg base CX0 1 fW dW ["form", "numbers"] (spWei K) := ok_wei FW M
  have bW : Binds K dW ["form", "numbers"] [] := FW.bindsN fun _ _ _ _ _ _ us hl => match us, hl with | [_, _], _ => rfl
  have GV : FnOk P w K mg base CX0 2 fV dV ["arrow", "up", "test"] (spLev K) := ok_lev FV M gg FW gW FL gL
  have bV : Binds K dV ["arrow", "up", "test"] [] := FV.bindsN fun _ _ _ _ _ _ us hl => match us, hl with | [_, _, _], _ => rfl
  have GN : FnOk P w K mg base CX0 2 fN dN ["one", "other", "found", "done"] (spNb K) := ok_nb FN M FW gW
  have bN : Binds K dN ["one", "other", "found", "done"] [] := FN.bindsN fun _ _ _ _ _ _ us hl => match us, hl with | [_, _, _, _], _ => rfl
  refine F.ok scCa (fun vs H Q E h => ?_) (fun cdv A outer s H vs Q E hr h => ?_)
  · obtain ⟨l, d, t, gt, xs, ys, fs, ds, n, rfl, _⟩ := h
    rfl
  · obtain ⟨l, d, t, gt, xs, ys, fs, ds, n, rfl, ht, hl, hxs, hd, hys, n4, lt, lf, ld, bt, bf, bd, fl, dl, ap, k⟩ := h
    have hr1 := hr.mono (show 1 ≤ 2 by decide)
    refine ⟨_, PSs.nox <| pss_cons (ps_setLc (i := 3) (own := [("arrow", 6)]) (g := gName 6) rfl scCa.nd rfl rfl (sw_true rfl rfl rfl (by decide +kernel)) (pi_list (pv 0)) (blkOk_by (N := nCa) (sc := defScope sCa) (by decide +kernel)) (fun _ _ _ _ _ => pg_name (i := 6) scCa.nd rfl (Or.inl rfl))
          (fun _ _ _ _ _ => pts_one (pt_cmpR op_ge (pe_call GW hr1 (by rfl) gW FW.kp bW .nil pass0 (pa_cons (pv 2) (pa_cons (pv 6) pa_nil))) pe_int (nomark _)))
          (fun _ _ _ _ _ => pv 6))
      <| pss_cons (ps_for PassesOwn.never rfl (pi_list (pv 0)) (pg_name (i := 4) scCa.nd rfl (.inl rfl))
          (pss_one (ps_for PassesOwn.never rfl (pi_list (pv 0)) (pg_name (i := 5) scCa.nd rfl (.inl rfl))
            (pss_one (ps_if (PW.pt (pw_and (pt_chain op_gt op_gt (pe_call GW hr1 (by rfl) gW FW.kp bW .nil pass0 (pa_cons (pv 2) (pa_cons (pv 4) pa_nil))) pe_int (pe_call GW hr1 (by rfl) gW FW.kp bW .nil pass0 (pa_cons (pv 2) (pa_cons (pv 5) pa_nil))))
                (pw_and1 (pt_val (pe_call GN hr (by rfl) gN FN.kp bN .nil pass0 (pa_cons (pv 4) (pa_cons (pv 5) (pa_cons (pv 0) (pa_cons (pv 1) pa_nil)))))))))
              (pss_one (ps_expr (pe_bm PySem.F.plainAttrs_list PySem.F.slot_list_append PySem.F.type_list_append mt_append (pv 3) (pa_cons (pe_call GV hr (by rfl) gV FV.kp bV .nil pass0 (pa_cons (pv 5) (pa_cons (pv 4) (pa_cons (pv 2) pa_nil)))) pa_nil)))) pss_nil)))))
      <| pss_one (ps_ret (pv 3)), ?_⟩
    refine ⟨_, rfl, l, rfl, ⟨_, hl⟩, lcF (walk_list (xs := xs)) (n1 := by rw [hxs.1]; omega) (fun H' s' => s'.seq hl) (fun i => decide (0 ≤ dot gt (fs.getD i []))) (fun i y H => ∃ a, y = .ref a ∧ SqT K H a ((fs.getD i []).map V.int)) (fun i y H H' s' ⟨a, e, h2⟩ => ⟨a, e, Same.seqT s' h2⟩) ?_ ?_⟩
    · rintro D acc i x Ha Hb K2 S hi s nD hD ⟨rfl, ex⟩ kk ks
      obtain ⟨a, rfl, ha, hm⟩ := hxs.at ex
      have la := lf _ hm
      refine ⟨rfl, _, rfl, _, rfl, t, a, gt, _, 400, 4000, rfl, Same.seqT s ht, Same.seqT s ha, by omega, by omega, bt, bf _ hm, by decide, by decide, fun H1 s1 => ⟨_, _, rfl, rfl, _, rfl, ?_⟩⟩
      by_cases h1 : 0 ≤ dot gt (fs.getD i [])
      · exact iteDY h1 ⟨_, rfl, kk _ _ (decide_eq_true h1) s1 ⟨a, rfl, Same.seqT (same_del (s.trans s1) nD) ha⟩⟩
      · exact iteDN h1 (ks _ (decide_eq_false h1) s1)
    · rintro D Hb cs0 nw hlen he
      rw [hxs.1] at hlen he
      have hcs : VA K Hb cs0 (fs.filter fun a => decide (0 ≤ dot gt a)) := by
        have h2 := VA.kept (K := K) (H := Hb) (gs := fs) (b := fun i => decide (0 ≤ dot gt (fs.getD i []))) (ys := cs0) (e := fun k => fs.getD k []) (E := fun _ _ => True) hlen fun j y ej => by
          obtain ⟨k, ek, a, e, h3⟩ := he j y ej
          exact ⟨k, ek, a, e, Same.seqT del_same h3⟩
        rw [filter_kept [] (fun a => decide (0 ≤ dot gt a)) fs] at h2
        exact h2
      have nD := nw.1
      have hDb := nw.2.1
      have sb := nw.2.2
      have fl0 : (fs.filter fun a => decide (0 ≤ dot gt a)).length ≤ 2000 := Nat.le_trans (List.length_filter_le _ _) fl
      refine ⟨_, rfl, l, rfl, ⟨_, sb.seq hl⟩, for_list (K := K) (a := l) (xs := xs) (fun i σ H2 => ∃ x4 x5 x6 cs, σ = [some (.ref l), some (.ref d), some (.ref t), some (.ref D), x4, x5, x6] ∧ Same H H2 ∧ H2 D = some (.lst cs) ∧ VA K H2 cs (fs.filter (fun a => decide (0 ≤ dot gt a)) ++ newF fs ds gt i)) ⟨_, _, _, cs0, rfl, sb, hDb, by simpa [newF] using hcs⟩ (fun i σ H2 _ ⟨_, _, _, _, _, s2, _⟩ => s2.seq hl) ?_ ?_⟩
      · rintro i y σ H2 hi ⟨x4, x5, x6, cs, rfl, s2, hD2, hcs2⟩
        obtain ⟨a, rfl, ha, hma⟩ := hxs.at hi
        have la := lf _ hma
        have hil : i < fs.length := by rw [← hxs.1]; exact (List.getElem?_eq_some_iff.mp hi).1
        refine ⟨_, rfl, l, rfl, ⟨_, s2.seq hl⟩, for_list (K := K) (a := l) (xs := xs) (fun j σ H2 => ∃ x5 x6 cs, σ = [some (.ref l), some (.ref d), some (.ref t), some (.ref D), some (.ref a), x5, x6] ∧ Same H H2 ∧ H2 D = some (.lst cs) ∧ VA K H2 cs (fs.filter (fun a => decide (0 ≤ dot gt a)) ++ newF fs ds gt i ++ rowF fs ds gt i j)) ⟨_, _, cs, rfl, s2, hD2, by simpa [rowF, kept] using hcs2⟩ (fun i σ H2 _ ⟨_, _, _, _, s2, _⟩ => s2.seq hl) ?_ ?_⟩
        · rintro j y σ H3 hj ⟨x5, x6, cs3, rfl, s3, hD3, hcs3⟩
          obtain ⟨b, rfl, hb, hmb⟩ := hxs.at hj
          have lb := lf _ hmb
          have hjl : j < fs.length := by rw [← hxs.1]; exact (List.getElem?_eq_some_iff.mp hj).1
          refine ⟨_, rfl, _, rfl, t, a, gt, _, 400, 4000, rfl, Same.seqT s3 ht, Same.seqT s3 ha, by omega, by omega, bt, bf _ hma, by decide, by decide, fun H4 s4 => ⟨_, _, rfl, rfl, _, rfl, ?_⟩⟩
          have s04 := s3.trans s4
          have no : ∀ {H5 : Hp}, Same H3 H5 → condF fs ds gt i j = false → ∃ y5 y6 cs, [some (V.ref l), some (.ref d), some (.ref t), some (.ref D), some (.ref a), some (.ref b), x6] = [some (V.ref l), some (.ref d), some (.ref t), some (.ref D), some (.ref a), y5, y6] ∧ Same H H5 ∧ H5 D = some (.lst cs) ∧ VA K H5 cs (fs.filter (fun a => decide (0 ≤ dot gt a)) ++ newF fs ds gt i ++ rowF fs ds gt i (j + 1)) := fun s5 hc => by
            refine ⟨_, _, cs3, rfl, s3.trans s5, s5 _ _ hD3, ?_⟩
            unfold rowF
            rw [kept_no hc]
            exact hcs3.same s5
          by_cases h1 : 0 < dot gt (fs.getD i [])
          · refine iteDY h1 ?_
            refine ⟨_, rfl, _, rfl, t, b, gt, _, 400, 4000, rfl, Same.seqT s04 ht, Same.seqT s04 hb, by omega, by omega, bt, bf _ hmb, by decide, by decide, fun H5 s5 => ⟨_, _, rfl, rfl, _, rfl, ?_⟩⟩
            have s35 := s4.trans s5
            have s05 := s04.trans s5
            by_cases h2 : dot gt (fs.getD j []) < 0
            · refine iteDY h2 ?_
              refine ⟨_, rfl, _, rfl, _, rfl, _, rfl, a, b, l, d, _, _, xs, ys, fs, ds, n, rfl, Same.seqT s05 ha, Same.seqT s05 hb, s05.seq hl, hxs.same s05, s05.seq hd, hys.same s05, n4, la, lb, lf, ld, bf _ hma, bf _ hmb, bf, bd, by omega, by omega, fun H6 s6 => ⟨_, rfl, ?_⟩⟩
              have s36 := s35.trans s6
              have s06 := s05.trans s6
              cases h3 : nbF (fs.getD i []) (fs.getD j []) fs ds with
              | true =>
                refine iteT ?_
                have hc : condF fs ds gt i j = true := by
                  unfold condF
                  rw [decide_eq_true h1, decide_eq_true h2, h3]
                  rfl
                refine ⟨_, rfl, .inl ⟨rfl, _, SqL.of (s36 _ _ hD3)⟩, _, rfl, _, rfl, _, rfl, b, a, t, _, _, gt, rfl, Same.seqT s06 hb, Same.seqT s06 ha, Same.seqT s06 ht, by omega, by omega, by omega, bf _ hmb, bf _ hma, bt, ap i j hil hjl h1 h2, fun q H7 s7 hq => ?_⟩
                have hD7 := s7 _ _ (s36 _ _ hD3)
                refine ⟨D, cs3, _, rfl, rfl, hD7, ?_, ?_⟩
                · have e1 := hcs3.1
                  have e2 := new_le fs ds gt i
                  have e3 := row_le fs ds gt i j
                  have e4 : i * fs.length ≤ 2000 * 2000 := Nat.mul_le_mul (by omega) fl
                  rw [List.length_append, List.length_append] at e1
                  have e5 : sizeLine = 16777216 := by decide
                  rw [e5]
                  omega
                · refine ⟨_, _, cs3 ++ [V.ref q], rfl, fun b' u e => ?_, upd_same, ?_⟩
                  · rw [upd_ne (ne_of_none e nD)]
                    exact (s06.trans s7) b' u e
                  · have e6 : rowF fs ds gt i (j + 1) = rowF fs ds gt i j ++ [levF (fs.getD j []) (fs.getD i []) gt] := by
                      unfold rowF
                      rw [kept_yes hc, List.map_append]
                      rfl
                    rw [e6, ← List.append_assoc]
                    exact ((hcs3.same (s36.trans s7)).push hq).nl (nl_upd hD7)
              | false => exact iteF (no s36 (by unfold condF; rw [h3, Bool.and_false, Bool.and_false]))
            · exact iteDN h2 (no s35 (by unfold condF; rw [decide_eq_false h2, Bool.false_and, Bool.and_false]))
          · exact iteDN h1 ⟨_, rfl, iteF (no s4 (by unfold condF; rw [decide_eq_false h1, Bool.false_and]))⟩
        · rintro σ H3 ⟨x5, x6, cs3, rfl, s3, hD3, hcs3⟩
          refine ⟨_, _, _, cs3, rfl, s3, hD3, ?_⟩
          rw [new_succ, ← List.append_assoc, ← hxs.1]
          exact hcs3
      · rintro σ H3 ⟨x4, x5, x6, cs3, rfl, s3, hD3, hcs3⟩
        refine ⟨_, rfl, k D cs3 H3 s3 hD3 nD ?_⟩
        unfold cutA
        rw [← hxs.1]
        exact hcs3
end
end Pg
set_option Elab.async false
set_option linter.all false
set_option maxRecDepth 100000
set_option maxHeartbeats 4000000
namespace K5
open PySem PySem.Spec PyProof.Rows L2 Gd Rl
abbrev top := Pg.top
abbrev sWell : Stmt := top 24
abbrev sDraw : Stmt := top 25
abbrev sPick : Stmt := top 26
abbrev FnP (K : PySem.W.Frag) (x : Str) (st : Stmt) (f : Addr) (fd : FuncData) : Prop := Pg.FnP K x st f fd
/-- a well: the state, the count, what is left of the own number -/
structure Well (H : Hp) (p : Addr) : Prop where
  ex : ∃ st c o : Int, H p = some (.lst [.int st, .int c, .int o]) ∧ 0 ≤ st ∧ 0 ≤ o
/-- what was tracked stands, but perhaps at p -/
def But (p : Addr) (H H' : Hp) : Prop := ∀ b o, H b = some o → b ≠ p → H' b = some o
theorem But.refl {p : Addr} {H : Hp} : But p H H := fun _ _ e _ => e
theorem But.trans {p : Addr} {H H1 H2 : Hp} (a : But p H H1) (b : But p H1 H2) : But p H H2 := fun c o e n => b c o (a c o e n) n
theorem But.same {p : Addr} {H H1 : Hp} (s : Same H H1) : But p H H1 := fun c o e _ => s c o e
theorem Well.same {H H' : Hp} {p : Addr} (h : Well H p) (e : Same H H') : Well H' p := by
  obtain ⟨st, c, o, h1, h2⟩ := h
  exact ⟨st, c, o, e _ _ h1, h2⟩
def spDraw : Sp := fun vs H Q _ => ∃ (p : Addr) (n : Int), vs = [.ref p, .int n] ∧ Well H p ∧ 1 ≤ n ∧ n ≤ 1000000000 ∧ ∀ (r : Int) (H' : Hp), 0 ≤ r → r < n → Well H' p → But p H H' → Q (.int r) H'
structure Bl (mg : Str → Option Value) : Prop where
  len : mg "len" = none
  divmod : mg "divmod" = none
  int : mg "int" = none
  abs : mg "abs" = none
section
variable {P : Program} {w : World} {K : PySem.W.Frag} {mg : Str → Option Value} {base : Heap} {f : Addr} {fd : FuncData}
abbrev nDraw : List Str := ["_law_well_here", "_law_many", "_law_digit", "_law_seed"]
theorem scDraw : FnScope nDraw ["_law_well_here", "_law_many"] (defScope sDraw) := ⟨rfl, rfl, rfl, by decide +kernel, rfl, by decide +kernel, by decide +kernel⟩
theorem ok_draw (F : FnP K "_law_draw" sDraw f fd) (T : Bl mg) : FnOk P w K mg base CX0 1 f fd ["_law_well_here", "_law_many"] spDraw := by
  refine F.ok scDraw (fun vs H Q E h => ?_) (fun cdv A outer s H vs Q E hr h => ?_)
  · obtain ⟨p, n, rfl, _⟩ := h
    rfl
  · obtain ⟨p, n, rfl, ⟨st, c, o, hp, h0, ho⟩, n1, n2, k⟩ := h
    refine ⟨_, PSs.nox (pss_cons (ps_if (pt_cmpR op_gt (pe_ix ix_list (pv 0) pe_int (fun _ _ => rfl)) pe_int (nomark _))
        (pss_cons (ps_asg (pe_callB call_divmod (by rfl) T.divmod (by decide +kernel) (pa_cons (pe_ix ix_list (pv 0) pe_int (fun _ _ => rfl)) (pa_cons (pv 1) pa_nil))) (pg_tup (by rfl) (pgs_cons (pg_sub (pv 0) pe_int set_list) (pgs_cons (pg_name (i := 2) scDraw.nd rfl (.inl rfl)) pgs_nil))))
          (pss_one (ps_ret (pv 2)))) pss_nil)
      (pss_cons (ps_asg (pe_op op_add (pe_ix ix_list (pv 0) pe_int (fun _ _ => rfl)) pe_int) (pg_sub (pv 0) pe_int set_list))
      (pss_cons (ps_set (i := 3) scDraw.nd rfl (.inl rfl) (pe_callTy call_int1 (by rfl) T.int (by decide +kernel) (pa_cons (pe_ix ix_list (pv 0) pe_int (fun _ _ => rfl)) pa_nil)))
      (pss_cons (ps_asg (pe_op op_mod (pe_callTy call_int1 (by rfl) T.int (by decide +kernel) (pa_cons (pe_op op_add (pe_op op_add (pe_op op_mul (pv 3) pe_int) (pe_op op_mul (pe_ix ix_list (pv 0) pe_int (fun _ _ => rfl)) pe_int)) pe_int) pa_nil)) pe_int) (pg_sub (pv 0) pe_int set_list))
      (pss_one (ps_ret (pe_op op_mod (pe_callTy call_int1 (by rfl) T.int (by decide +kernel) (pa_cons (pe_op op_fdiv (pe_ix ix_list (pv 0) pe_int (fun _ _ => rfl)) pe_int) pa_nil)) (pv 1)))))))), ?_⟩
    refine ⟨_, rfl, p, _, _, _, rfl, rfl, SqL.of hp, rfl, _, _, rfl, rfl, _, rfl, ?_⟩
    refine ite2 (fun hc => ?_) (fun hc => ?_)
    · refine ⟨_, rfl, p, _, _, _, rfl, rfl, SqL.of hp, rfl, _, rfl, _, _, rfl, ⟨by omega, by omega⟩, fun q hq => ?_⟩
      have pq : p ≠ q := ne_of_none hp hq
      have ho' : 0 < o := of_decide_eq_true hc
      refine ⟨q, _, rfl, SqT.of upd_same, rfl, _, _, rfl, _, rfl, p, _, _, 2, rfl, rfl, (by rw [upd_ne pq]; exact hp), rfl, ?_⟩
      refine ⟨_, _, rfl, ?_⟩
      refine ⟨rfl, _, rfl, ?_⟩
      refine k (o % n) _ (Int.emod_nonneg _ (by omega)) (Int.emod_lt_of_pos _ (by omega)) ⟨st, c, o / n, upd_same, h0, Int.ediv_nonneg (by omega) (by omega)⟩ fun b u e nb => ?_
      rw [upd_ne nb, upd_ne (ne_of_none e hq)]
      exact e
    · refine ⟨_, rfl, p, _, _, _, rfl, rfl, SqL.of hp, rfl, _, _, rfl, rfl, _, rfl, p, _, _, 1, rfl, rfl, hp, rfl, ?_⟩
      refine ⟨_, rfl, p, _, _, _, rfl, rfl, SqL.of upd_same, rfl, .inl ⟨_, rfl, ?_⟩⟩
      refine ⟨_, rfl, _, _, rfl, rfl, .inr ⟨by decide, by decide⟩, _, rfl, p, _, _, _, rfl, rfl, SqL.of upd_same, rfl, _, _, rfl, rfl, .inr ⟨by decide, by decide⟩, _, _, rfl, rfl, _, _, rfl, rfl, .inl ⟨_, rfl, _, _, rfl, rfl, (by show (0 : Int) < 2147483629; decide), ?_⟩⟩
      refine ⟨_, rfl, p, _, _, 0, rfl, rfl, upd_same, rfl, ?_⟩
      refine ⟨_, rfl, p, _, _, _, rfl, rfl, SqL.of upd_same, rfl, _, _, rfl, rfl, ⟨by decide, by decide⟩, .inl ⟨_, rfl, _, rfl, _, _, rfl, rfl, (by show (0 : Int) < n; omega), ?_⟩⟩
      refine k _ _ (Int.emod_nonneg _ (by omega)) (Int.emod_lt_of_pos _ (by omega)) ⟨_, _, o, upd_same, Int.emod_nonneg _ (by decide), ho⟩ fun b u e nb => ?_
      rw [upd_ne nb, upd_ne nb]
      exact e
/-! ### any of a list -/
def spPick (K : PySem.W.Frag) : Sp := fun vs H Q _ => ∃ (p l : Addr) (xs : List V), vs = [.ref p, .ref l] ∧ Well H p ∧ H l = some (.lst xs) ∧ l ≠ p ∧ 0 < xs.length ∧ xs.length ≤ 1000 ∧
  ∀ (i : Nat) (x : V) (H' : Hp), xs[i]? = some x → Well H' p → But p H H' → Q x H'
theorem scPick : FnScope ["_law_well_here", "_law_choices"] ["_law_well_here", "_law_choices"] (defScope sPick) := ⟨rfl, rfl, rfl, by decide +kernel, rfl, by decide +kernel, by decide +kernel⟩
theorem ok_pick {fC : Addr} {fdC : FuncData} (F : FnP K "_law_pick" sPick f fd) (T : Bl mg) (FC : FnP K "_law_draw" sDraw fC fdC) (gC : mg "_law_draw" = some (.ref fC)) : FnOk P w K mg base CX0 2 f fd ["_law_well_here", "_law_choices"] (spPick K) := by
  have GC : FnOk P w K mg base CX0 1 fC fdC ["_law_well_here", "_law_many"] spDraw := ok_draw FC T
  have bC : Binds K fdC ["_law_well_here", "_law_many"] [] := FC.bindsN fun _ _ _ _ _ _ us hl => match us, hl with | [_, _], _ => rfl
  refine F.ok scPick (fun vs H Q E h => ?_) (fun cdv A outer s H vs Q E hr h => ?_)
  · obtain ⟨p, l, xs, rfl, _⟩ := h
    rfl
  · obtain ⟨p, l, xs, rfl, hp, hl, lp, x0, x1, k⟩ := h
    refine ⟨_, PSs.nox (pss_one (ps_ret (pe_ix ix_list (pv 1) (pe_call GC hr (by rfl) gC FC.kp bC .nil pass0 (pa_cons (pv 0) (pa_cons (pe_callB call_len (by rfl) T.len PySem.boot_len (pa_cons (pv 1) pa_nil)) pa_nil))) (fun _ _ => rfl)))), ?_⟩
    refine ⟨_, rfl, _, rfl, _, rfl, _, xs.length, rfl, .inl ⟨_, SqL.of hl, rfl⟩, p, _, rfl, hp, by omega, by omega, fun r H' r0 r1 hp' bt => ?_⟩
    have hl' : H' l = some (.lst xs) := bt l _ hl lp
    have hi : r.toNat < xs.length := by omega
    have er : xs[r.toNat]? = some xs[r.toNat] := by simp [hi]
    have e2 : atI xs r = some xs[r.toNat] := by
      have := atI_nat er
      rwa [Int.toNat_of_nonneg r0] at this
    exact ⟨l, _, r, _, rfl, rfl, SqL.of hl', e2, k r.toNat _ H' er hp' bt⟩
end
end K5
set_option Elab.async false
set_option linter.all false
set_option maxRecDepth 100000
set_option maxHeartbeats 4000000
namespace K5
open PySem PySem.Spec PyProof.Rows L2 Gd Rl
theorem cut_ints {ns : List Int} {lo hi : Option Int} {x : V} (m : x ∈ cutV (ns.map V.int) lo hi) : ∃ z, x = V.int z := by
  unfold cutV at m
  have m2 := List.mem_of_mem_drop (List.mem_of_mem_take m)
  obtain ⟨z, _, e⟩ := List.mem_map.mp m2
  exact ⟨z, e.symm⟩
theorem cut_len (xs : List V) (lo hi : Option Int) : (cutV xs lo hi).length ≤ xs.length := by
  unfold cutV
  rw [List.length_take, List.length_drop]
  omega
section
variable {P : Program} {w : World} {K : PySem.W.Frag} {mg : Str → Option Value} {base : Heap} {f : Addr} {fd : FuncData}
def spWell (K : PySem.W.Frag) : Sp := fun vs H Q _ => ∃ (a : Addr) (ns : List Int) (t : Nat), vs = [.ref a, .int t] ∧ SqL K H a (ns.map V.int) ∧ ns.length ≤ 63 ∧ t ≤ 1000 ∧
  ∀ (p : Addr) (H' : Hp), Same H H' → H p = none → Well H' p → Q (.ref p) H'
abbrev nWell : List Str := ["_law_script", "_law_spot", "_law_state", "_law_cell", "_law_own"]
theorem scWell : FnScope nWell ["_law_script", "_law_spot"] (defScope sWell) := ⟨rfl, rfl, rfl, by decide +kernel, rfl, by decide +kernel, by decide +kernel⟩
theorem ok_well (F : FnP K "_law_well" sWell f fd) (T : Bl mg) : FnOk P w K mg base CX0 1 f fd ["_law_script", "_law_spot"] (spWell K) := by
  refine F.ok scWell (fun vs H Q E h => ?_) (fun cdv A outer s H vs Q E hr h => ?_)
  · obtain ⟨a, ns, t, rfl, _⟩ := h
    rfl
  · obtain ⟨a, ns, t, rfl, hS, hn, ht, k⟩ := h
    refine ⟨_, PSs.nox <| pss_cons (ps_set (i := 2) scWell.nd rfl (.inl rfl) (pe_op op_add pe_int (pe_op op_mul pe_int (pv 1))))
      <| pss_cons (ps_for PassesOwn.never rfl (pi_list (pe_op op_catR (pe_slice (r := rSlR K) sl_listR (pv 0) po_none (po_some pe_int)) (pe_slice (r := rSlR K) sl_listR (pv 0) (po_some (pv 1)) (po_some (pe_op op_add (pv 1) pe_int))))) (pg_name (i := 3) scWell.nd rfl (.inl rfl))
        (pss_one (ps_set (i := 2) scWell.nd rfl (.inl rfl) (pe_op op_mod (pe_callTy call_int1 (by rfl) T.int (by decide +kernel) (pa_cons (pe_op op_add (pe_op op_add (pe_op op_mul (pv 2) pe_int) (pv 3)) pe_int) pa_nil)) pe_int))))
      <| pss_cons (ps_set (i := 4) scWell.nd rfl (.inl rfl) (pe_ifExp (pt_cmpR op_lt (pv 1) (pe_callB call_len (by rfl) T.len PySem.boot_len (pa_cons (pv 0) pa_nil)) (nomark _)) (pe_ix ix_list (pv 0) (pv 1) (fun _ _ => rfl)) pe_int))
      <| pss_one (ps_ret (pe_lstR (pa_cons (pv 2) (pa_cons pe_int (pa_cons (pe_ifExp (pt_cmpR op_ge (pe_callB call_abs (by rfl) T.abs (by decide +kernel) (pa_cons (pv 4) pa_nil)) (pe_op op_pow pe_int pe_int) (nomark _)) (pe_callB call_abs (by rfl) T.abs (by decide +kernel) (pa_cons (pv 4) pa_nil)) pe_int) pa_nil))))), ?_⟩
    refine ⟨_, rfl, _, _, rfl, rfl, .inl ⟨by omega, by omega⟩, _, _, rfl, rfl, ?_⟩
    refine ⟨_, rfl, 4, rfl, a, _, rfl, hS, fun p1 H1 n1 => ?_⟩
    refine ⟨_, rfl, _, rfl, (t : Int), rfl, _, rfl, _, _, rfl, rfl, _, rfl, a, _, rfl, n1.2.2.seq hS, fun p2 H2 n2 => ?_⟩
    have l1 := cut_len (ns.map V.int) none (some 4)
    have l2 := cut_len (ns.map V.int) (some t) (some ((t : Int) + 1))
    rw [List.length_map] at l1 l2
    refine ⟨p1, p2, _, _, rfl, rfl, n2.2.2 _ _ n1.2.1, n2.2.1, by omega, fun p3 H3 n3 => ?_⟩
    have s03 := (n1.2.2.trans n2.2.2).trans n3.2.2
    refine ⟨p3, rfl, ⟨_, SqL.of n3.2.1⟩, for_list (K := K) (a := p3) (xs := cutV (ns.map V.int) none (some 4) ++ cutV (ns.map V.int) (some t) (some ((t : Int) + 1))) (fun i σ H4 => ∃ (st : Int) (cell : Option V), σ = [some (.ref a), some (.int t), some (.int st), cell, none] ∧ Same H3 H4 ∧ 0 ≤ st) ⟨_, none, rfl, Same.refl _, by omega⟩ (fun i σ H4 _ ⟨_, _, _, s4, _⟩ => SqL.of (s4 _ _ n3.2.1)) ?_ ?_⟩
    · rintro i y σ H4 hi ⟨st, cell, rfl, s4, h0⟩
      obtain ⟨z, rfl⟩ : ∃ z, y = V.int z := by
        rcases List.mem_append.mp (List.mem_of_getElem? hi) with m | m
        · exact cut_ints m
        · exact cut_ints m
      refine ⟨_, rfl, _, _, rfl, rfl, .inr ⟨by decide, by decide⟩, _, rfl, _, _, rfl, rfl, _, _, rfl, rfl, .inl ⟨_, rfl, _, _, rfl, rfl, (by show (0 : Int) < 2147483579; decide), ?_⟩⟩
      exact ⟨_, _, rfl, s4, Int.emod_nonneg _ (by decide)⟩
    · rintro σ H4 ⟨st, cell, rfl, s4, h0⟩
      have s04 := s03.trans s4
      have fin : ∀ (v : Int), 0 ≤ v → ∀ p H6, New H4 p (.lst [.int st, .int 0, .int v]) H6 → Q (.ref p) H6 := fun v hv p H6 n6 => k p H6 (s04.trans n6.2.2) (s04.free n6.1) ⟨st, 0, v, n6.2.1, h0, hv⟩
      refine ⟨_, rfl, _, rfl, _, (ns.map V.int).length, rfl, .inl ⟨_, s04.seq hS, rfl⟩, _, _, rfl, rfl, _, rfl, ?_⟩
      refine ite2 (fun hc => ?_) (fun hc => ?_)
      · have hlt : t < ns.length := by
          have z : ((t : Nat) : Int) < ((ns.map V.int).length : Nat) := of_decide_eq_true hc
          rw [List.length_map] at z
          omega
        have er : (ns.map V.int)[t]? = some (V.int ns[t]) := by simp [hlt]
        refine ⟨_, rfl, _, rfl, a, _, _, _, rfl, rfl, s04.seq hS, atI_nat er, ?_⟩
        refine ⟨_, rfl, _, rfl, _, rfl, _, _, rfl, rfl, ⟨by decide, by decide, by decide⟩, _, _, rfl, rfl, _, rfl, ?_⟩
        refine ite2 (fun h1 => ?_) (fun h1 => ?_)
        · exact ⟨_, rfl, _, rfl, by show 3 ≤ 1000; decide, fin _ (by split <;> omega)⟩
        · exact ⟨by show 3 ≤ 1000; decide, fin _ (by omega)⟩
      · refine ⟨_, rfl, _, rfl, _, rfl, _, _, rfl, rfl, ⟨by decide, by decide, by decide⟩, _, _, rfl, rfl, _, rfl, ?_⟩
        refine ite2 (fun h1 => ?_) (fun h1 => ?_)
        · exact ⟨_, rfl, _, rfl, by show 3 ≤ 1000; decide, fin _ (by split <;> omega)⟩
        · exact ⟨by show 3 ≤ 1000; decide, fin _ (by omega)⟩
end
end K5
set_option Elab.async false
set_option linter.all false
set_option maxRecDepth 100000
set_option maxHeartbeats 8000000
namespace L2
open PySem PySem.Spec PyProof.Rows
/-! data without dicts compared, whatever its texts -/
def rEqP (K : PySem.W.Frag) : R2 := fun x y H Q => ∃ d e, Dp K H x d ∧ Dp K H y e ∧ d.plain = true ∧ e.plain = true ∧ d.depth ≤ 64 ∧ Q (.bl (PyData.eqv d e)) H
def rNeP (K : PySem.W.Frag) : R2 := fun x y H Q => ∃ d e, Dp K H x d ∧ Dp K H y e ∧ d.plain = true ∧ e.plain = true ∧ d.depth ≤ 64 ∧ Q (.bl (!PyData.eqv d e)) H
section
variable {X : Cx}
theorem op_eqP (hu : X.A.units + 64 < cLine) : OpR X (compareOp .Eq) (rEqP X.K) := by
  intro pins s σ H x y v u Q I rx ry h
  obtain ⟨d, e, hd, he, sd, se, dd, q⟩ := h
  obtain ⟨as, r1⟩ := Dp.reads I d x v hd rx
  obtain ⟨bs, r2⟩ := Dp.reads I e y u he ry
  exact SeqAt.eq_plain r1 r2 sd se (Nat.lt_of_le_of_lt (Nat.add_le_add_left (Nat.le_trans (Nat.min_le_left _ _) dd) _) hu) ⟨.bl _, H, I, rfl, q⟩
theorem op_neP (hu : X.A.units + 64 < cLine) : OpR X (compareOp .NotEq) (rNeP X.K) := by
  intro pins s σ H x y v u Q I rx ry h
  obtain ⟨d, e, hd, he, sd, se, dd, q⟩ := h
  obtain ⟨as, r1⟩ := Dp.reads I d x v hd rx
  obtain ⟨bs, r2⟩ := Dp.reads I e y u he ry
  exact SeqAt.ne_plain r1 r2 sd se (Nat.lt_of_le_of_lt (Nat.add_le_add_left (Nat.le_trans (Nat.min_le_left _ _) dd) _) hu) ⟨.bl _, H, I, rfl, q⟩
end
end L2
namespace Pg
open PySem PySem.Spec PyProof.Rows L2 Gd Rl Te Vd Fx RZ Dd
theorem eqv_ints : ∀ xs ys : List Int, PyData.eqvAll (xs.map PyData.int) (ys.map PyData.int) = decide (xs = ys)
  | [], [] => by simp [PyData.eqvAll]
  | [], y :: ys => by simp [PyData.eqvAll]
  | x :: xs, [] => by simp [PyData.eqvAll]
  | x :: xs, y :: ys => by
    rw [List.map_cons, List.map_cons, PyData.eqvAll, eqv_ints xs ys, PyData.eqv]
    rw [Bool.eq_iff_iff, Bool.and_eq_true, beq_iff_eq, decide_eq_true_iff, decide_eq_true_iff, List.cons.injEq]
/-- a state: a place and values -/
def plD (s : Str × List Int) : PyData := .tuple [.str s.1, fD s.2]
theorem plain_ints : ∀ xs : List Int, PyData.plainAll (xs.map PyData.int) = true
  | [] => by simp [PyData.plainAll]
  | x :: xs => by
    rw [List.map_cons, PyData.plainAll, plain_ints xs, PyData.plain]
    rfl
theorem plain_f (xs : List Int) : PyData.plain (fD xs) = true := by
  show PyData.plain (.tuple _) = true
  rw [PyData.plain, plain_ints]
theorem depth_ints : ∀ xs : List Int, PyData.depthAll (xs.map PyData.int) ≤ 1
  | [] => by simp [PyData.depthAll]
  | x :: xs => by
    have := depth_ints xs
    simp only [List.map_cons, PyData.depthAll, PyData.depth]
    omega
theorem dp_ints {K : PySem.W.Frag} {H : Hp} {p : Addr} {f : List Int} (h : SqT K H p (f.map V.int)) : Dp K H (.ref p) (fD f) := by
  refine .tup h ?_
  clear h
  induction f with
  | nil => exact .nil
  | cons i f ih => exact .cons (.int i) ih
end Pg
set_option Elab.async false
set_option linter.all false
set_option maxRecDepth 100000
set_option maxHeartbeats 8000000
set_option exponentiation.threshold 10000
namespace Dd
def acrF (ls : List (List Int)) (t : List Int) : List (List Int) := ls.filter fun l => !decide (dot t l = 0)
def negF (g : List Int) : List Int := g.map fun z => -z
/-- the line that crosses, turned up -/
def upF (a t : List Int) : List Int := if dot t a < 0 then negF a else a
def lvlL (ls : List (List Int)) (a t : List Int) : List (List Int) := (ls.filter fun l => !decide (l = a)).map fun l => levF l (upF a t) t
def lvlA (fs : List (List Int)) (a t : List Int) : List (List Int) := fs.map (fun f => levF f (upF a t) t) ++ [upF a t]
def cutL (ls : List (List Int)) (t : List Int) : List (List Int) := match acrF ls t with
  | [] => ls
  | a :: _ => lvlL ls a t
def cutF (ls fs ds : List (List Int)) (t : List Int) : List (List Int) := match acrF ls t with
  | [] => cutA fs ds t
  | a :: _ => lvlA fs a t
/-- nothing falls together -/
def CutOk (ls fs ds : List (List Int)) (t : List Int) : Prop := match acrF ls t with
  | [] => Apart fs ds t
  | a :: _ => (∀ l ∈ ls, l ≠ a → 0 < gcdF (combF (dot t (upF a t)) (dot t l) l (upF a t))) ∧ ∀ f ∈ fs, 0 < gcdF (combF (dot t (upF a t)) (dot t f) f (upF a t))
theorem neg_len (g : List Int) : (negF g).length = g.length := by simp [negF]
theorem up_len (a t : List Int) : (upF a t).length = a.length := by
  unfold upF
  split
  · exact neg_len a
  · rfl
theorem neg_bd {b : Nat} {g : List Int} (h : Bd b g) : Bd b (negF g) := fun z hz => by
  obtain ⟨y, hy, rfl⟩ := List.mem_map.mp hz
  rw [Int.natAbs_neg]
  exact h y hy
theorem up_bd {b : Nat} {a t : List Int} (h : Bd b a) : Bd b (upF a t) := by
  unfold upF
  split
  · exact neg_bd h
  · exact h
end Dd
namespace Pg
open PySem PySem.Spec PyProof.Rows L2 Gd Rl Te Vd Fx RZ Dd
abbrev sCut : Stmt := top 19
theorem nl_del {H : Hp} {l : Addr} {X : List V} (h : H l = some (.lst X)) : Nl H (delH H l) := fun b o e n => by
  rw [delH_ne (fun q => by rw [q, h] at e; cases e; exact n _ rfl)]
  exact e
theorem range_all (f : Nat → List Int) (n : Nat) : kept (fun _ => true) n = List.range n := by
  unfold kept
  simp
/-- two ways that come together -/
theorem withR {G : Prop} {R : Addr → Hp → Prop} (Pr : Addr → Hp → Prop) (h : (∀ q H, Pr q H → R q H) → G) (hR : ∀ q H, Pr q H → R q H) : G := h hR
theorem iteNY {c A B : Prop} [Decidable c] (hc : ¬ c) (h : A) : if (!decide c) = true then A else B := by
  rw [decide_eq_false hc]
  exact iteT h
theorem iteNN {c A B : Prop} [Decidable c] (hc : c) (h : B) : if (!decide c) = true then A else B := by
  rw [decide_eq_true hc]
  exact iteF h
theorem eqv_f (g h : List Int) : PyData.eqv (fD g) (fD h) = decide (g = h) := by
  show PyData.eqv (.tuple _) (.tuple _) = _
  rw [PyData.eqv, eqv_ints]
theorem depth_f (g : List Int) : PyData.depth (fD g) ≤ 64 := by
  have h := depth_ints g
  show PyData.depth (.tuple _) ≤ 64
  rw [PyData.depth]
  omega
section
variable {P : Program} {w : World} {K : PySem.W.Frag} {mg : Str → Option Value} {base : Heap} {f : Addr} {fd : FuncData}
def spCut (K : PySem.W.Frag) : Sp := fun vs H Q _ => ∃ (m l d t : Addr) (gt : List Int) (us xs ys : List V) (ls fs ds : List (List Int)) (n : Nat), vs = [.ref m, .ref l, .ref d, .ref t] ∧ SqT K H t (gt.map V.int) ∧ H m = some (.lst us) ∧ VA K H us ls ∧ H l = some (.lst xs) ∧ VA K H xs fs ∧ SqL K H d ys ∧ VA K H ys ds ∧
  n ≤ 4 ∧ gt.length = n ∧ Ln n ls ∧ Ln n fs ∧ Ln n ds ∧ Bd 400 gt ∧ Bds 4000 ls ∧ Bds 4000 fs ∧ Bds 400 ds ∧ ls.length ≤ 4 ∧ fs.length ≤ 900 ∧ ds.length ≤ 1000 ∧ CutOk ls fs ds gt ∧
  ∀ r m' l' us' zs H', Same H H' → SqT K H' r [.ref m', .ref l'] → H' m' = some (.lst us') → (m' = m ∨ H m' = none) → VA K H' us' (cutL ls gt) → H' l' = some (.lst zs) → H l' = none → VA K H' zs (cutF ls fs ds gt) → Q (.ref r) H'
abbrev nCut : List Str := ["lines", "found", "done", "test", "across", "first", "level_lines", "line", "number", "arrow"]
theorem scCut : FnScope nCut ["lines", "found", "done", "test"] (defScope sCut) := ⟨rfl, rfl, rfl, by decide +kernel, rfl, by decide +kernel, by decide +kernel⟩
theorem ok_cut {fW fL fV fN fC : Addr} {dW dL dV dN dC : FuncData} (F : FnP K "_cut" sCut f fd) (M : Mo mg) (gg : mg "gcd" = some (.builtin "math.gcd")) (FW : FnP K "weighed" sWei fW dW) (gW : mg "weighed" = some (.ref fW)) (FL : FnP K "lowest" sLow fL dL) (gL : mg "lowest" = some (.ref fL))
    (FV : FnP K "_leveled" sLev fV dV) (gV : mg "_leveled" = some (.ref fV)) (FN : FnP K "_are_neighbours" sNb fN dN) (gN : mg "_are_neighbours" = some (.ref fN)) (FC : FnP K "_cut_arrows" sCa fC dC) (gC : mg "_cut_arrows" = some (.ref fC)) : FnOk P w K mg base CX0 4 f fd ["lines", "found", "done", "test"] (spCut K) := by
  have GW : FnOk P w K mg base CX0 1 fW dW ["form", "numbers"] (spWei K) := ok_wei FW M
  have bW : Binds K dW ["form", "numbers"] [] := FW.bindsN fun _ _ _ _ _ _ us hl => match us, hl with | [_, _], _ => rfl
  have GV : FnOk P w K mg base CX0 2 fV dV ["arrow", "up", "test"] (spLev K) := ok_lev FV M gg FW gW FL gL
  have bV : Binds K dV ["arrow", "up", "test"] [] := FV.bindsN fun _ _ _ _ _ _ us hl => match us, hl with | [_, _, _], _ => rfl
  have GC : FnOk P w K mg base CX0 3 fC dC ["found", "done", "test"] (spCa K) := ok_ca FC M gg FW gW FL gL FV gV FN gN
  have bC : Binds K dC ["found", "done", "test"] [] := FC.bindsN fun _ _ _ _ _ _ us hl => match us, hl with | [_, _, _], _ => rfl
  refine F.ok scCut (fun vs H Q E h => ?_) (fun cdv A outer s H vs Q E hr h => ?_)
  · obtain ⟨m, l, d, t, gt, us, xs, ys, ls, fs, ds, n, rfl, _⟩ := h
    rfl
  · obtain ⟨m, l, d, t, gt, us, xs, ys, ls, fs, ds, n, rfl, ht, hm0, hus, hl0, hxs, hd, hys, n4, lt, ll, lf, ld, bt, bl, bf, bd, ml, fl, dl, ok, k⟩ := h
    have hr1 := hr.mono (show 1 ≤ 3 by decide)
    have hr2 := hr.mono (show 2 ≤ 3 by decide)
    have hm : SqL K H m us := SqL.of hm0
    have hl : SqL K H l xs := SqL.of hl0
    refine ⟨_, PSs.nox <| pss_cons (ps_set (i := 4) scCut.nd rfl (.inr rfl) (pe_lc (own := [("line", 7)]) (g := gName 7) rfl scCut.nd (pi_list (pv 0)) (blkOk_by (N := nCut) (sc := defScope sCut) (by decide +kernel)) (fun _ _ _ _ _ => pg_name (i := 7) scCut.nd rfl (Or.inl rfl))
          (fun _ _ _ _ _ => pts_one (pt_cmpR op_ne (pe_call GW hr1 (by rfl) gW FW.kp bW .nil pass0 (pa_cons (pv 3) (pa_cons (pv 7) pa_nil))) pe_int (nomark _)))
          (fun _ _ _ _ _ => pv 7)))
      <| pss_cons (ps_if (pt_not (pt_truth (pv 4) (by intro _; rfl))) (pss_one (ps_ret (pe_tupR (pa_cons (pv 0) (pa_cons (pe_call GC hr (by rfl) gC FC.kp bC .nil pass0 (pa_cons (pv 1) (pa_cons (pv 2) (pa_cons (pv 3) pa_nil)))) pa_nil))))) pss_nil)
      <| pss_cons (ps_set (i := 5) scCut.nd rfl (.inr rfl) (pe_ix ix_list (pv 4) pe_int (fun _ _ => rfl)))
      <| pss_cons (ps_if (pt_cmpR op_lt (pe_call GW hr1 (by rfl) gW FW.kp bW .nil pass0 (pa_cons (pv 3) (pa_cons (pv 5) pa_nil))) pe_int (nomark _))
          (pss_one (ps_set (i := 5) scCut.nd rfl (.inr rfl) (pe_callTy call_tuple_of (by rfl) M.tuple (by decide +kernel) (pa_cons (pe_lc (own := [("number", 8)]) (g := gName 8) (tt := tYes) rfl scCut.nd (pi_tup (pv 5)) (blkOk_by (N := nCut) (sc := defScope sCut) (by decide +kernel)) (fun _ _ _ _ _ => pg_name (i := 8) scCut.nd rfl (Or.inl rfl)) (fun _ _ _ _ _ => pts_nil)
            (fun _ _ _ _ _ => pe_un un_neg (pv 8))) pa_nil)))) pss_nil)
      <| pss_cons (ps_setLc (i := 6) (own := [("line", 7)]) (g := gName 7) rfl scCut.nd rfl rfl (sw_true rfl rfl rfl (by decide +kernel)) (pi_list (pv 0)) (blkOk_by (N := nCut) (sc := defScope sCut) (by decide +kernel)) (fun _ _ _ _ _ => pg_name (i := 7) scCut.nd rfl (Or.inl rfl))
          (fun _ _ _ _ _ => pts_one (pt_cmpR (r := rNeP K) (op_neP hr.units) (pv 7) (pe_ix (r := rIxL K) ix_list (pv 4) pe_int (fun _ _ => rfl)) (nomark _)))
          (fun _ _ _ _ _ => pe_call GV hr2 (by rfl) gV FV.kp bV .nil pass0 (pa_cons (pv 7) (pa_cons (pv 5) (pa_cons (pv 3) pa_nil)))))
      <| pss_one (ps_ret (pe_tupR (pa_cons (pv 6) (pa_cons (pe_op op_catR (pe_lc (own := [("arrow", 9)]) (g := gName 9) (tt := tYes) rfl scCut.nd (pi_list (pv 1)) (blkOk_by (N := nCut) (sc := defScope sCut) (by decide +kernel)) (fun _ _ _ _ _ => pg_name (i := 9) scCut.nd rfl (Or.inl rfl)) (fun _ _ _ _ _ => pts_nil)
          (fun _ _ _ _ _ => pe_call GV hr2 (by rfl) gV FV.kp bV .nil pass0 (pa_cons (pv 9) (pa_cons (pv 5) (pa_cons (pv 3) pa_nil))))) (pe_lstR (pa_cons (pv 5) pa_nil))) pa_nil)))), ?_⟩
    refine ⟨_, rfl, m, rfl, ⟨_, hm⟩, lcF (walk_list (xs := us)) (n1 := by rw [hus.1]; omega) (fun H' s' => s'.seq hm) (fun i => !decide (dot gt (ls.getD i []) = 0)) (fun i y H => ∃ a, y = .ref a ∧ SqT K H a ((ls.getD i []).map V.int)) (fun i y H H' s' ⟨a, e, h2⟩ => ⟨a, e, Same.seqT s' h2⟩) ?_ ?_⟩
    · rintro D acc i x Ha Hb K2 S hi s nD hD ⟨rfl, ex⟩ kk ks
      obtain ⟨a, rfl, ha, hma⟩ := hus.at ex
      have la := ll _ hma
      refine ⟨rfl, _, rfl, _, rfl, t, a, gt, _, 400, 4000, rfl, Same.seqT s ht, Same.seqT s ha, by omega, by omega, bt, bl _ hma, by decide, by decide, fun H1 s1 => ⟨rfl, _, rfl, ?_⟩⟩
      by_cases h1 : dot gt (ls.getD i []) = 0
      · exact iteNN (c := V.int (dot gt (ls.getD i [])) = V.int 0) (by rw [h1]) (ks _ (by rw [decide_eq_true h1]; rfl) s1)
      · exact iteNY (c := V.int (dot gt (ls.getD i [])) = V.int 0) (fun e => h1 (V.int.inj e)) ⟨_, rfl, kk _ _ (by rw [decide_eq_false h1]; rfl) s1 ⟨a, rfl, Same.seqT (same_del (s.trans s1) nD) ha⟩⟩
    · rintro D Hb cs nw hlen he
      rw [hus.1] at hlen he
      have hcs : VA K Hb cs (acrF ls gt) := by
        have h2 := VA.kept (K := K) (H := Hb) (gs := ls) (b := fun i => !decide (dot gt (ls.getD i []) = 0)) (ys := cs) (e := fun k => ls.getD k []) (E := fun _ _ => True) hlen fun j y ej => by
          obtain ⟨k, ek, a, e, h3⟩ := he j y ej
          exact ⟨k, ek, a, e, Same.seqT del_same h3⟩
        rw [filter_kept [] (fun l => !decide (dot gt l = 0)) ls] at h2
        exact h2
      have sb := nw.2.2
      have hDb := nw.2.1
      refine ⟨_, rfl, !cs.isEmpty, .inl ⟨_, SqL.of hDb, rfl⟩, ?_⟩
      unfold CutOk at ok
      cases hac : acrF ls gt with
      | nil =>
        rw [hac] at hcs ok
        have e0 : cs = [] := List.length_eq_zero_iff.mp hcs.1
        subst e0
        refine iteT ?_
        refine ⟨_, rfl, _, rfl, _, rfl, _, rfl, l, d, t, gt, xs, ys, fs, ds, n, rfl, Same.seqT sb ht, sb.seq hl, hxs.same sb, sb.seq hd, hys.same sb, n4, lt, lf, ld, bt, bf, bd, by omega, dl, ok, fun r zs H1 s1 hr1' nr hz => ⟨by show 2 ≤ 1000; decide, fun p H2 n2 => ?_⟩⟩
        have s12 := (sb.trans s1).trans n2.2.2
        refine k p m r us zs H2 s12 (SqT.of n2.2.1) (s12 _ _ hm0) (.inl rfl) ?_ (n2.2.2 _ _ hr1') (sb.free nr) ?_
        · unfold cutL
          rw [hac]
          exact hus.same s12
        · unfold cutF
          rw [hac]
          exact hz.same n2.2.2
      | cons a0 rest =>
        rw [hac] at hcs ok
        have hne : cs.isEmpty = false := by
          cases cs with
          | nil => exact absurd hcs.1 (by simp)
          | cons => rfl
        rw [hne]
        refine iteF ?_
        obtain ⟨x0, ex0⟩ : ∃ x0, cs[0]? = some x0 := ⟨_, List.getElem?_eq_getElem (by rw [hcs.1]; simp)⟩
        obtain ⟨a, rfl, ha⟩ := hcs.2 0 x0 ex0
        have ha0 : SqT K Hb a (a0.map V.int) := ha
        have hmem : a0 ∈ ls := by
          have : a0 ∈ acrF ls gt := by rw [hac]; exact List.mem_cons_self ..
          exact (List.mem_filter.mp this).1
        have l0 := ll _ hmem
        have b0 := bl _ hmem
        refine ⟨_, rfl, D, _, 0, _, rfl, rfl, SqL.of hDb, atI_nat ex0, ?_⟩
        apply withR (fun q H2 => Same Hb H2 ∧ SqT K H2 q ((upF a0 gt).map V.int))
        · intro k2
          refine ⟨_, rfl, _, rfl, t, a, gt, a0, 400, 4000, rfl, Same.seqT sb ht, ha0, by omega, by omega, bt, b0, by decide, by decide, fun H1 s1 => ⟨_, _, rfl, rfl, _, rfl, ?_⟩⟩
          by_cases hc : dot gt a0 < 0
          · rw [decide_eq_true hc]
            refine iteT ?_
            refine ⟨_, rfl, a, rfl, ⟨_, Same.seqT s1 ha0⟩, lcR (walk_tup (xs := a0.map V.int)) (n1 := by rw [List.length_map]; omega) (fun H' s' => Same.seqT s' (Same.seqT s1 ha0)) (fun i y _ => y = .int (-(a0.getD i 0))) (fun _ _ _ _ _ e => e) ?_ ?_⟩
            · rintro D2 acc i x Ha Hc K2 hi s nD hD ⟨rfl, ex⟩ kk
              obtain ⟨rfl, l1⟩ := getD_at ex
              exact ⟨rfl, _, rfl, _, rfl, kk _ _ (Same.refl _) rfl⟩
            · rintro D2 Hc zs nw2 hlen2 he2
              have ez : zs = (negF a0).map V.int := by
                rw [list_of hlen2 he2, List.length_map]
                unfold negF
                apply List.ext_getElem
                · simp
                · intro i h1 h2
                  simp only [List.length_map, List.length_range] at h1
                  simp [List.getD_eq_getElem?_getD, List.getElem?_eq_getElem h1]
              refine ⟨D2, _, rfl, .inl ⟨SqL.of nw2.2.1, fun q1 nq1 => ?_⟩⟩
              have hq : SqT K (upd Hc q1 (.tup zs)) q1 ((upF a0 gt).map V.int) := by
                unfold upF
                rw [if_pos hc, ← ez]
                exact SqT.of upd_same
              have hs : Same Hb (upd Hc q1 (.tup zs)) := (s1.trans nw2.2.2).trans (same_new nq1)
              generalize upd Hc q1 (.tup zs) = H3 at hq hs ⊢
              exact k2 q1 H3 ⟨hs, hq⟩
          · rw [decide_eq_false hc]
            refine iteF ?_
            have hq : SqT K H1 a ((upF a0 gt).map V.int) := by
              unfold upF
              rw [if_neg hc]
              exact Same.seqT s1 ha0
            clear ex0 ha ha0
            generalize a = q at hq ⊢
            exact k2 q H1 ⟨s1, hq⟩
        · rintro q H2 ⟨s2, hq⟩
          have s02 := sb.trans s2
          have lu : (upF a0 gt).length = n := by rw [up_len, l0]
          have bu : Bd 4000 (upF a0 gt) := up_bd b0
          refine ⟨_, rfl, m, rfl, ⟨_, s02.seq hm⟩, lcF (walk_list (xs := us)) (n1 := by rw [hus.1]; omega) (fun H' s' => s'.seq (s02.seq hm)) (fun i => !decide (ls.getD i [] = a0)) (fun i y H => ∃ b, y = .ref b ∧ SqT K H b ((levF (ls.getD i []) (upF a0 gt) gt).map V.int)) (fun i y H H' s' ⟨a, e, h2⟩ => ⟨a, e, Same.seqT s' h2⟩) ?_ ?_⟩
          · rintro D2 acc i x Ha Hc K2 S hi s nD hD ⟨rfl, ex⟩ kk ks
            obtain ⟨b, rfl, hb, hmb⟩ := (hus.same s02).at ex
            have lb := ll _ hmb
            have hb2 := Same.seqT s hb
            refine ⟨rfl, _, rfl, _, rfl, D, _, 0, _, rfl, rfl, SqL.of (s _ _ (s2 _ _ hDb)), atI_nat ex0, fD _, fD a0, dp_ints hb2, dp_ints (Same.seqT (s2.trans s) ha0), plain_f _, plain_f _, depth_f _, _, rfl, ?_⟩
            rw [eqv_f]
            by_cases h1 : ls.getD i [] = a0
            · exact iteNN h1 (ks _ (by rw [decide_eq_true h1]; rfl) (Same.refl _))
            · refine iteNY h1 ?_
              refine ⟨_, rfl, _, rfl, _, rfl, b, q, t, _, _, gt, rfl, hb2, Same.seqT s hq, Same.seqT (s02.trans s) ht, by omega, by omega, by omega, bl _ hmb, bu, bt, ok.1 _ hmb h1, fun b2 H4 s4 hb4 => ?_⟩
              refine kk _ _ (by rw [decide_eq_false h1]; rfl) s4 ⟨b2, rfl, ?_⟩
              exact seqT_nl (nl_del (s4 _ _ hD)) hb4
          · rintro D2 Hc cs2 nw2 hlen2 he2
            rw [hus.1] at hlen2 he2
            have hcs2 : VA K Hc cs2 (lvlL ls a0 gt) := by
              have h2 := VA.kept (K := K) (H := Hc) (gs := ls) (b := fun i => !decide (ls.getD i [] = a0)) (ys := cs2) (e := fun k => levF (ls.getD k []) (upF a0 gt) gt) (E := fun _ _ => True) hlen2 fun j y ej => by
                obtain ⟨k, ek, a, e, h3⟩ := he2 j y ej
                exact ⟨k, ek, a, e, Same.seqT del_same h3⟩
              have e : (kept (fun i => !decide (ls.getD i [] = a0)) ls.length).map (fun k => levF (ls.getD k []) (upF a0 gt) gt) = lvlL ls a0 gt := by
                unfold lvlL
                rw [← filter_kept [] (fun l => !decide (l = a0)) ls, List.map_map]
                rfl
              rw [e] at h2
              exact h2
            have s03 := s02.trans nw2.2.2
            refine ⟨_, rfl, _, rfl, l, rfl, ⟨_, s03.seq hl⟩, lcR (walk_list (xs := xs)) (n1 := by rw [hxs.1]; omega) (fun H' s' => s'.seq (s03.seq hl)) (fun i y H => ∃ b, y = .ref b ∧ SqT K H b ((levF (fs.getD i []) (upF a0 gt) gt).map V.int)) (fun i y H H' s' ⟨a, e, h2⟩ => ⟨a, e, Same.seqT s' h2⟩) ?_ ?_⟩
            · rintro D3 acc i x Ha Hd K2 hi s nD hD ⟨rfl, ex⟩ kk
              obtain ⟨b, rfl, hb, hmb⟩ := (hxs.same s03).at ex
              have lb := lf _ hmb
              refine ⟨rfl, _, rfl, _, rfl, _, rfl, b, q, t, _, _, gt, rfl, Same.seqT s hb, Same.seqT (nw2.2.2.trans s) hq, Same.seqT (s03.trans s) ht, by omega, by omega, by omega, bf _ hmb, bu, bt, ok.2 _ hmb, fun b2 H4 s4 hb4 => kk _ _ s4 ⟨b2, rfl, seqT_nl (nl_del (s4 _ _ hD)) hb4⟩⟩
            · rintro D3 Hd cs3 nw3 hlen3 he3
              rw [hxs.1] at hlen3
              refine ⟨_, rfl, by show 1 ≤ 1000; decide, fun p1 He n1 => ?_⟩
              refine ⟨D3, p1, cs3, _, rfl, rfl, n1.2.2 _ _ nw3.2.1, n1.2.1, by show cs3.length + 1 ≤ 1000; omega, fun p2 Hf n2 => ⟨by show 2 ≤ 1000; decide, fun r Hg n3 => ?_⟩⟩
              have sg := ((nw3.2.2.trans n1.2.2).trans n2.2.2).trans n3.2.2
              refine k r D2 p2 cs2 _ Hg (s03.trans sg) (SqT.of n3.2.1) (sg _ _ nw2.2.1) (.inr (s02.free nw2.1)) ?_ (n3.2.2 _ _ n2.2.1) (((s03.trans nw3.2.2).trans n1.2.2).free n2.1) ?_
              · unfold cutL
                rw [hac]
                exact hcs2.same sg
              · unfold cutF
                rw [hac]
                unfold lvlA
                refine VA.push ?_ (Same.seqT (nw2.2.2.trans sg) hq)
                refine ⟨by rw [hlen3, List.length_map], fun j y ej => ?_⟩
                obtain ⟨b, rfl, hb⟩ := he3 j y ej
                have hj : j < fs.length := by rw [← hlen3]; exact (List.getElem?_eq_some_iff.mp ej).1
                refine ⟨b, rfl, ?_⟩
                rw [List.getD_eq_getElem?_getD, List.getElem?_map, List.getElem?_eq_getElem hj]
                have hb2 := Same.seqT ((del_same (H := Hd) (D := D3)).trans ((n1.2.2.trans n2.2.2).trans n3.2.2)) hb
                rw [List.getD_eq_getElem?_getD, List.getElem?_eq_getElem hj] at hb2
                exact hb2
end
end Pg
set_option Elab.async false
set_option linter.all false
set_option maxRecDepth 100000
set_option maxHeartbeats 8000000
set_option exponentiation.threshold 10000
namespace Dd
def unitF (n a : Nat) : List Int := (List.range n).map fun o => if o = a then 1 else 0
def unitsF (n : Nat) : List (List Int) := (List.range n).map (unitF n)
structure St where
  ls : List (List Int)
  fs : List (List Int)
  ds : List (List Int)
def St.next (s : St) (t : List Int) : St := ⟨cutL s.ls t, cutF s.ls s.fs s.ds t, s.ds ++ [t]⟩
def stF (n : Nat) (ts : List (List Int)) (i : Nat) : St := (ts.take i).foldl St.next ⟨unitsF n, [], []⟩
/-- the tests, the one of points ahead -/
def allT (n : Nat) (ts : List (List Int)) : List (List Int) := unitF n (n - 1) :: ts
structure StOk (n : Nat) (s : St) : Prop where
  l4 : s.ls.length ≤ 4
  f9 : s.fs.length ≤ 900
  ll : Ln n s.ls
  lf : Ln n s.fs
  bl : Bds 4000 s.ls
  bf : Bds 4000 s.fs
structure ArrOk (n : Nat) (ts : List (List Int)) : Prop where
  lll : Ln n (stF n (allT n ts) (ts.length + 1)).ls
  ok : ∀ i, i < (allT n ts).length → StOk n (stF n (allT n ts) i)
  cut : ∀ i t, (allT n ts)[i]? = some t → CutOk (stF n (allT n ts) i).ls (stF n (allT n ts) i).fs (stF n (allT n ts) i).ds t
  lsz : (stF n (allT n ts) (ts.length + 1)).ls.length ≤ 1000
  fsz : (stF n (allT n ts) (ts.length + 1)).fs.length ≤ 5000
def arrF (n : Nat) (ts : List (List Int)) : List (List Int) := (stF n (allT n ts) (ts.length + 1)).fs ++ (stF n (allT n ts) (ts.length + 1)).ls ++ (stF n (allT n ts) (ts.length + 1)).ls.map negF
theorem st_succ {n : Nat} {ts : List (List Int)} {i : Nat} {t : List Int} (e : ts[i]? = some t) : stF n ts (i + 1) = (stF n ts i).next t := by
  unfold stF
  rw [List.take_add_one, e, List.foldl_append]
  rfl
theorem st_ds {n : Nat} {ts : List (List Int)} : ∀ i, i ≤ ts.length → (stF n ts i).ds = ts.take i
  | 0, _ => by simp [stF]
  | i + 1, h => by
    have e : ts[i]? = some ts[i] := List.getElem?_eq_getElem (by omega)
    rw [st_succ e, List.take_add_one, e]
    show (stF n ts i).ds ++ [ts[i]] = _
    rw [st_ds i (by omega)]
    rfl
theorem unit_len (n a : Nat) : (unitF n a).length = n := by simp [unitF]
end Dd
namespace Pg
open PySem PySem.Spec PyProof.Rows L2 Gd Rl Te Vd Fx RZ Dd StX
abbrev sArr : Stmt := top 18
def retV : Stmt → Expr
  | .Return (some e) _ => e
  | _ => .Name "" ⟨0, 0, 0, 0⟩
def binR : Expr → Expr
  | .BinOp _ _ r _ => r
  | e => e
theorem atI_neg {xs : List V} {j : Nat} {v : V} (hj : j < xs.length) (h : xs[xs.length - 1 - j]? = some v) : atI xs (-1 - (j : Int)) = some v := by
  unfold atI
  have e : ixN xs.length (-1 - (j : Int)) = some (xs.length - 1 - j) := by
    unfold ixN
    rw [if_neg (by omega), if_pos (by omega)]
    congr 1
    omega
  rw [e]
  exact h
def rCatW : R2 := fun x y H Q => ∃ l b xs zs, x = .ref l ∧ y = .ref b ∧ H l = some (.lst xs) ∧ H b = some (.lst zs) ∧ xs.length + zs.length ≤ 100000 ∧ ∀ p H2, New H p (.lst (xs ++ zs)) H2 → Q (.ref p) H2
theorem op_catW {X : Cx} : OpR X (binaryOp .Add) rCatW := by
  intro pins s σ H x y v u Q I rx ry h
  obtain ⟨l, b, xs, zs, e1, e2, h1, h2, z, q⟩ := h
  exact op_cat pins s σ H x y v u Q I rx ry ⟨l, b, xs, zs, e1, e2, h1, h2, Nat.le_of_lt (small5 z), fun p np => q p _ (.mk' np)⟩
def rTupOf (K : PySem.W.Frag) : List V → Hp → VK → Prop := fun xs H Q => ∃ p ys, xs = [.ref p] ∧ ((SqL K H p ys ∧ ∀ l, H l = none → Q (.ref l) (upd H l (.tup ys))) ∨ (SqT K H p ys ∧ Q (.ref p) H))
theorem VA.app {K : PySem.W.Frag} {H : Hp} {xs ys : List V} {gs hs : List (List Int)} (h1 : VA K H xs gs) (h2 : VA K H ys hs) : VA K H (xs ++ ys) (gs ++ hs) := by
  refine ⟨by rw [List.length_append, List.length_append, h1.1, h2.1], fun i x e => ?_⟩
  by_cases q : i < xs.length
  · rw [List.getElem?_append_left q] at e
    obtain ⟨b, rfl, hb⟩ := h1.2 i x e
    refine ⟨b, rfl, ?_⟩
    rw [List.getD_eq_getElem?_getD, List.getElem?_append_left (by rw [← h1.1]; exact q), ← List.getD_eq_getElem?_getD]
    exact hb
  · rw [List.getElem?_append_right (by omega)] at e
    obtain ⟨b, rfl, hb⟩ := h2.2 _ x e
    refine ⟨b, rfl, ?_⟩
    rw [List.getD_eq_getElem?_getD, List.getElem?_append_right (by rw [← h1.1]; omega), ← h1.1, ← List.getD_eq_getElem?_getD]
    exact hb
theorem VA.cons {K : PySem.W.Frag} {H : Hp} {b : Addr} {xs : List V} {g : List Int} {gs : List (List Int)} (hb : SqT K H b (g.map V.int)) (h : VA K H xs gs) : VA K H (.ref b :: xs) (g :: gs) := by
  refine ⟨by rw [List.length_cons, List.length_cons, h.1], fun i x e => ?_⟩
  cases i with
  | zero =>
    cases e
    exact ⟨b, rfl, hb⟩
  | succ i => exact h.2 i x e
theorem VA.nil {K : PySem.W.Frag} {H : Hp} : VA K H [] [] := ⟨rfl, fun i x e => by simp at e⟩
section
variable {P : Program} {w : World} {K : PySem.W.Frag} {mg : Str → Option Value} {base : Heap} {f : Addr} {fd : FuncData}
def spArr (K : PySem.W.Frag) : Sp := fun vs H Q _ => ∃ (a : Addr) (m : Nat) (xs : List V) (ts : List (List Int)), vs = [.ref a, .int m] ∧ SqT K H a xs ∧ VA K H xs ts ∧ 1 ≤ m ∧ m ≤ 3 ∧ Ln (m + 1) ts ∧ Bds 400 ts ∧ ts.length ≤ 900 ∧ ArrOk (m + 1) ts ∧
  ∀ r zs H', Same H H' → H' r = some (.lst zs) → VA K H' zs (arrF (m + 1) ts) → Q (.ref r) H'
abbrev nArr : List Str := ["tests", "many", "size", "lines", "found", "done", "test", "at", "other", "line", "number"]
theorem scArr : FnScope nArr ["tests", "many"] (defScope sArr) := ⟨rfl, rfl, rfl, by decide +kernel, rfl, by decide +kernel, by decide +kernel⟩
theorem ok_arr {fW fL fV fN fC fX : Addr} {dW dL dV dN dC dX : FuncData} (F : FnP K "arrows" sArr f fd) (M : Mo mg) (gg : mg "gcd" = some (.builtin "math.gcd")) (FW : FnP K "weighed" sWei fW dW) (gW : mg "weighed" = some (.ref fW)) (FL : FnP K "lowest" sLow fL dL) (gL : mg "lowest" = some (.ref fL))
    (FV : FnP K "_leveled" sLev fV dV) (gV : mg "_leveled" = some (.ref fV)) (FN : FnP K "_are_neighbours" sNb fN dN) (gN : mg "_are_neighbours" = some (.ref fN)) (FC : FnP K "_cut_arrows" sCa fC dC) (gC : mg "_cut_arrows" = some (.ref fC)) (FX : FnP K "_cut" sCut fX dX) (gX : mg "_cut" = some (.ref fX)) : FnOk P w K mg base CX0 5 f fd ["tests", "many"] (spArr K) := by
  have GX : FnOk P w K mg base CX0 4 fX dX ["lines", "found", "done", "test"] (spCut K) := ok_cut FX M gg FW gW FL gL FV gV FN gN FC gC
  have bX : Binds K dX ["lines", "found", "done", "test"] [] := FX.bindsN fun _ _ _ _ _ _ us hl => match us, hl with | [_, _, _, _], _ => rfl
  refine F.ok scArr (fun vs H Q E h => ?_) (fun cdv A outer s H vs Q E hr h => ?_)
  · obtain ⟨a, m, xs, ts, rfl, _⟩ := h
    rfl
  · obtain ⟨a, m, xs, ts, rfl, ha, hxs, m1, m3, lt, bt, tl, ok, k⟩ := h
    refine ⟨_, PSs.nox <| pss_cons (ps_set (i := 2) scArr.nd rfl (.inr rfl) (pe_op op_add (pv 1) pe_int))
      <| pss_cons (ps_setLc (i := 3) (own := [("at", 7)]) (g := gName 7) (tt := tYes) rfl scArr.nd rfl rfl (sw_true rfl rfl rfl (by decide +kernel)) (pi_range1 (by rfl) M.range (pa_cons (pv 2) pa_nil)) (blkOk_by (N := nArr) (sc := defScope sArr) (by decide +kernel)) (fun _ _ _ _ _ => pg_name (i := 7) scArr.nd rfl (Or.inr rfl)) (fun _ _ _ _ _ => pts_nil)
          (fun _ _ _ _ _ => pe_callTy (r := rTupOf K) call_tuple_of (by rfl) M.tuple (by decide +kernel) (pa_cons (pe_lc (own := [("other", 8)]) (g := gName 8) (tt := tYes) rfl scArr.nd (pi_range1 (by rfl) M.range (pa_cons (pv 2) pa_nil)) (blkOk_by (N := nArr) (sc := rlSc (lcSc (asgV ((defBody sArr).getD 1 (.Pass ⟨0, 0, 0, 0⟩)))) (defScope sArr)) (by decide +kernel)) (fun _ _ _ _ _ => pg_name (i := 8) scArr.nd rfl (Or.inl rfl)) (fun _ _ _ _ _ => pts_nil)
            (fun _ _ _ _ _ => pe_ifExp (pt_cmpR op_eq (pv 8) (pv 7) (nomark _)) pe_int pe_int)) pa_nil)))
      <| pss_cons (ps_set (i := 4) scArr.nd rfl (.inl rfl) (pe_lstR pa_nil))
      <| pss_cons (ps_set (i := 5) scArr.nd rfl (.inl rfl) (pe_lstR pa_nil))
      <| pss_cons (ps_for PassesOwn.never rfl (pi_list (pe_lstR (pa_cons (pe_ix (r := rIxL K) ix_list (pv 3) (pe_un un_neg pe_int) (fun _ _ => rfl)) (pa_star (pv 0) pa_nil)))) (pg_name (i := 6) scArr.nd rfl (.inl rfl))
          (pss_cons (ps_asg (pe_call GX hr (by rfl) gX FX.kp bX .nil pass0 (pa_cons (pv 3) (pa_cons (pv 4) (pa_cons (pv 5) (pa_cons (pv 6) pa_nil))))) (pg_tup (by rfl) (pgs_cons (pg_name (i := 3) scArr.nd rfl (.inl rfl)) (pgs_cons (pg_name (i := 4) scArr.nd rfl (.inl rfl)) pgs_nil))))
            (pss_one (ps_expr (pe_bm PySem.F.plainAttrs_list PySem.F.slot_list_append PySem.F.type_list_append mt_append (pv 5) (pa_cons (pv 6) pa_nil))))))
      <| pss_one (ps_ret (pe_op op_catW (pe_op op_catW (pv 4) (pv 3)) (pe_lc (own := [("line", 9)]) (g := gName 9) (tt := tYes) rfl scArr.nd (pi_list (pv 3)) (blkOk_by (N := nArr) (sc := defScope sArr) (by decide +kernel)) (fun _ _ _ _ _ => pg_name (i := 9) scArr.nd rfl (Or.inl rfl)) (fun _ _ _ _ _ => pts_nil)
          (fun _ _ _ _ _ => pe_callTy (r := rTupOf K) call_tuple_of (by rfl) M.tuple (by decide +kernel) (pa_cons (pe_lc (own := [("number", 10)]) (g := gName 10) (tt := tYes) (wi := iTup K (tVar 9)) rfl scArr.nd (pi_tup (pv 9)) (blkOk_by (N := nArr) (sc := rlSc (lcSc (binR (retV ((defBody sArr).getD 5 (.Pass ⟨0, 0, 0, 0⟩))))) (defScope sArr)) (by decide +kernel)) (fun _ _ _ _ _ => pg_name (i := 10) scArr.nd rfl (Or.inl rfl)) (fun _ _ _ _ _ => pts_nil)
            (fun _ _ _ _ _ => pe_un un_neg (pv 10))) pa_nil))))), ?_⟩
    have nn : ((m : Int) + 1).toNat = m + 1 := by omega
    refine ⟨_, rfl, _, _, rfl, rfl, ?_⟩
    refine ⟨_, rfl, _, rfl, by omega, by omega, lcR (walk_range (lo := 0) (n := ((m : Int) + 1).toNat)) (n1 := by omega) (fun _ _ => trivial) (fun i y H => ∃ b, y = .ref b ∧ SqT K H b ((unitF (m + 1) i).map V.int)) (fun i y H H' s' ⟨a, e, h2⟩ => ⟨a, e, Same.seqT s' h2⟩) ?_ ?_⟩
    · rintro D acc i x Ha Hb K2 hi s nD hD ⟨rfl, rfl⟩ kk
      refine ⟨rfl, _, rfl, _, rfl, by omega, by omega, lcR (walk_range (lo := 0) (n := ((m : Int) + 1).toNat)) (n1 := by omega) (fun _ _ => trivial) (fun o y _ => y = .int (if o = i then 1 else 0)) (fun _ _ _ _ _ e => e) ?_ ?_⟩
      · rintro D2 acc2 j x2 Ha2 Hb2 K3 hj s3 nD2 hD2 ⟨rfl, rfl⟩ kk2
        refine ⟨rfl, _, rfl, _, rfl, rfl, _, rfl, ?_⟩
        by_cases h1 : j = i
        · subst h1
          refine iteDY rfl ?_
          exact kk2 _ _ (Same.refl _) (by rw [if_pos rfl])
        · refine iteDN (fun e => h1 (by have := V.int.inj e; omega)) ?_
          exact kk2 _ _ (Same.refl _) (by rw [if_neg h1])
      · rintro D2 Hc zs nw hlen he
        have ez : zs = (unitF (m + 1) i).map V.int := by
          rw [list_of hlen he, nn]
          unfold unitF
          rw [List.map_map]
          apply List.map_congr_left
          intro o _
          rfl
        refine ⟨D2, _, rfl, .inl ⟨SqL.of nw.2.1, fun q nq => ?_⟩⟩
        have s4 := nw.2.2.trans (same_new (o := .tup zs) nq)
        exact kk _ _ s4 ⟨q, rfl, by rw [← ez]; exact seqT_nl (nl_del (s4 _ _ hD)) (SqT.of upd_same)⟩
    · rintro D Hb us0 nw hlen he
      rw [nn] at hlen
      have hus0 : VA K Hb us0 (unitsF (m + 1)) := by
        refine ⟨by rw [hlen]; simp [unitsF], fun i x e => ?_⟩
        obtain ⟨b, rfl, hb⟩ := he i x e
        have hi : i < m + 1 := by rw [← hlen]; exact (List.getElem?_eq_some_iff.mp e).1
        refine ⟨b, rfl, ?_⟩
        have e2 : (unitsF (m + 1)).getD i [] = unitF (m + 1) i := by
          unfold unitsF
          rw [List.getD_eq_getElem?_getD, List.getElem?_map, List.getElem?_range hi]
          rfl
        rw [e2]
        exact Same.seqT del_same hb
      have sb := nw.2.2
      refine ⟨by decide, fun p1 H1 n1 => ⟨by decide, fun p2 H2 n2 => ?_⟩⟩
      have s12 := n1.2.2.trans n2.2.2
      obtain ⟨x0, ex0⟩ : ∃ x0, us0[m]? = some x0 := ⟨_, List.getElem?_eq_getElem (by omega)⟩
      obtain ⟨b0, rfl, hb0⟩ := hus0.2 m x0 ex0
      have eu : (unitsF (m + 1)).getD m [] = unitF (m + 1) m := by
        unfold unitsF
        rw [List.getD_eq_getElem?_getD, List.getElem?_map, List.getElem?_range (by omega)]
        rfl
      rw [eu] at hb0
      refine ⟨_, rfl, _, rfl, D, us0, -1, _, rfl, rfl, SqL.of (s12 _ _ nw.2.1), atI_neg (j := 0) (by omega) (by rw [hlen]; exact ex0), ?_⟩
      have hlu : us0.length = m + 1 := hlen
      refine ⟨_, rfl, a, xs, rfl, .inl (Same.seqT (sb.trans s12) ha), ?_, fun p3 H3 n3 => ?_⟩
      · have := hxs.1
        simp only [List.length_cons, List.length_append, List.length_nil]
        omega
      have s03 := (sb.trans s12).trans n3.2.2
      have s33 := s12.trans n3.2.2
      have hp2 : H3 p2 = some (.lst []) := n3.2.2 _ _ n2.2.1
      have nH : H p2 = none := (sb.trans n1.2.2).free n2.1
      have hit : VA K H3 (.ref b0 :: (xs ++ [])) (allT (m + 1) ts) := by
        rw [List.append_nil]
        exact VA.cons (Same.seqT s33 hb0) (hxs.same s03)
      have p32 : p3 ≠ p2 := fun e => by
        have z := n3.1
        rw [e, n2.2.1] at z
        cases z
      refine ⟨p3, rfl, ⟨_, SqL.of n3.2.1⟩, for_list (K := K) (a := p3) (xs := .ref b0 :: (xs ++ [])) (fun i σ H2 => ∃ m' l' us ws ys x6, σ = [some (.ref a), some (.int m), some (.int ((m : Int) + 1)), some (.ref m'), some (.ref l'), some (.ref p2), x6, none, none, none, none] ∧
          (∀ b o, H3 b = some o → b ≠ p2 → H2 b = some o) ∧ H2 p2 = some (.lst ys) ∧ VA K H2 ys (stF (m + 1) (allT (m + 1) ts) i).ds ∧ H2 m' = some (.lst us) ∧ VA K H2 us (stF (m + 1) (allT (m + 1) ts) i).ls ∧ H2 l' = some (.lst ws) ∧ VA K H2 ws (stF (m + 1) (allT (m + 1) ts) i).fs ∧ m' ≠ p2 ∧ l' ≠ p2)
        ⟨D, p1, us0, [], [], none, rfl, fun b o e _ => e, hp2, VA.nil, s33 _ _ nw.2.1, hus0.same s33, n3.2.2 _ _ (n2.2.2 _ _ n1.2.1), VA.nil, fun e => ?_, fun e => ?_⟩ (fun i σ H2 _ ⟨_, _, _, _, _, _, _, bt, _⟩ => SqL.of (bt _ _ n3.2.1 p32)) ?_ ?_⟩
      · have z := n2.1
        rw [← e, n1.2.2 _ _ nw.2.1] at z
        cases z
      · have z := n2.1
        rw [← e, n1.2.1] at z
        cases z
      · rintro i y σ H4 hi ⟨m', l', us, ws, ys, x6, rfl, bu, hd, hys, hm', hus, hl', hws, mp, lp⟩
        obtain ⟨tr, rfl, htr, htm⟩ := hit.at hi
        have nl34 : Nl H3 H4 := fun b o e n => bu b o e fun q => by
          rw [q, hp2] at e
          cases e
          exact n _ rfl
        have hi2 : i < (allT (m + 1) ts).length := by rw [← hit.1]; exact (List.getElem?_eq_some_iff.mp hi).1
        have et : (allT (m + 1) ts)[i]? = some ((allT (m + 1) ts).getD i []) := by
          rw [List.getD_eq_getElem?_getD, List.getElem?_eq_getElem hi2]
          rfl
        have so := ok.ok i hi2
        have hds := st_ds (n := m + 1) (ts := allT (m + 1) ts) i (Nat.le_of_lt hi2)
        have lall : ∀ g ∈ allT (m + 1) ts, g.length = m + 1 := fun g hg => by
          rcases List.mem_cons.mp hg with rfl | hg
          · exact unit_len _ _
          · exact lt g hg
        have ball : ∀ g ∈ allT (m + 1) ts, Bd 400 g := fun g hg => by
          rcases List.mem_cons.mp hg with rfl | hg
          · intro z hz
            obtain ⟨o, _, rfl⟩ := List.mem_map.mp hz
            show (if o = m + 1 - 1 then (1 : Int) else 0).natAbs < _
            split <;> exact Nat.lt_of_lt_of_le (by decide) (Nat.pow_le_pow_right (n := 2) (i := 1) (j := 400) (by decide) (by decide))
          · exact bt g hg
        have dsm : ∀ g ∈ (stF (m + 1) (allT (m + 1) ts) i).ds, g ∈ allT (m + 1) ts := fun g hg => by
          rw [hds] at hg
          exact List.mem_of_mem_take hg
        refine ⟨_, rfl, _, rfl, _, rfl, _, rfl, m', l', p2, tr, _, us, ws, ys, _, _, _, m + 1, rfl, seqT_nl nl34 htr, hm', hus, hl', hws, SqL.of hd, hys, by omega, lall _ htm, so.ll, so.lf, fun g hg => lall g (dsm g hg), ball _ htm, so.bl, so.bf, fun g hg => ball g (dsm g hg), so.l4, so.f9, ?_, ok.cut i _ et, fun r m2 l2 us2 zs H5 s5 hr5 hm5 fm hus5 hl5 fl5 hzs => ?_⟩
        · rw [hds, List.length_take]
          have : (allT (m + 1) ts).length = ts.length + 1 := rfl
          omega
        refine ⟨r, _, rfl, hr5, rfl, _, _, rfl, _, _, rfl, rfl, ?_⟩
        have hd5 := s5 _ _ hd
        have hl := hys.1
        rw [hds, List.length_take] at hl
        have hal : (allT (m + 1) ts).length = ts.length + 1 := rfl
        refine ⟨_, rfl, .inl ⟨rfl, _, SqL.of hd5⟩, _, rfl, p2, ys, _, rfl, rfl, hd5, small5 (by omega), ?_⟩
        have nl5 := nl_upd (Y := ys ++ [V.ref tr]) hd5
        have m2p : m2 ≠ p2 := fun e => by
          rcases fm with q | q
          · exact mp (by rw [← q, e])
          · rw [e, hd] at q
            cases q
        have l2p : l2 ≠ p2 := fun e => by
          rw [e, hd] at fl5
          cases fl5
        have en := st_succ (n := m + 1) et
        refine ⟨m2, l2, us2, zs, ys ++ [.ref tr], _, rfl, fun b o e n => by rw [upd_ne n]; exact s5 _ _ (bu b o e n), upd_same, ?_, by rw [upd_ne m2p]; exact hm5, ?_, by rw [upd_ne l2p]; exact hl5, ?_, m2p, l2p⟩
        · rw [en]
          exact ((hys.same s5).push (Same.seqT s5 (seqT_nl nl34 htr))).nl nl5
        · rw [en]
          exact hus5.nl nl5
        · rw [en]
          exact hzs.nl nl5
      · rintro σ H4 ⟨m', l', us, ws, ys, x6, rfl, bu, hd, hys, hm', hus, hl', hws, mp, lp⟩
        have el : (V.ref b0 :: (xs ++ [])).length = ts.length + 1 := by rw [hit.1]; rfl
        rw [el] at hys hus hws
        have s04 : Same H H4 := fun b o e => bu b o (s03 b o e) fun q => by
          rw [q, nH] at e
          cases e
        have z1 := hus.1
        have z2 := hws.1
        have z3 := ok.lsz
        have z4 := ok.fsz
        have hll := ok.lll
        refine ⟨_, rfl, _, rfl, l', m', ws, us, rfl, rfl, hl', hm', by omega, fun p4 H5 n5 => ?_⟩
        refine ⟨_, rfl, m', rfl, ⟨_, SqL.of (n5.2.2 _ _ hm')⟩, lcR (walk_list (xs := us)) (n1 := by omega) (fun H' s' => SqL.of (s' _ _ (n5.2.2 _ _ hm'))) (fun i y H => ∃ b, y = .ref b ∧ SqT K H b ((negF ((stF (m + 1) (allT (m + 1) ts) (ts.length + 1)).ls.getD i [])).map V.int)) (fun i y H H' s' ⟨a, e, h2⟩ => ⟨a, e, Same.seqT s' h2⟩) ?_ ?_⟩
        · rintro D5 acc i x Ha Hd K2 hi s nD hD ⟨rfl, ex⟩ kk
          obtain ⟨b, rfl, hb, hmb⟩ := (hus.same n5.2.2).at ex
          have hb2 := Same.seqT s hb
          refine ⟨rfl, _, rfl, b, rfl, ⟨_, hb2⟩, lcW (walk_tup (xs := ((stF (m + 1) (allT (m + 1) ts) (ts.length + 1)).ls.getD i []).map V.int)) (n1 := ?_) (fun H' s' => Same.seqT s' hb2) (fun j y _ => y = .int (-(((stF (m + 1) (allT (m + 1) ts) (ts.length + 1)).ls.getD i []).getD j 0))) (fun _ _ _ _ _ e => e) ?_ ?_⟩
          · rw [List.length_map]
            have := hll _ hmb
            omega
          · rintro D6 acc6 j x6' Ha6 Hb6 K6 hj s6 nD6 hD6 ⟨rfl, ex6⟩ kk6
            obtain ⟨rfl, l6⟩ := getD_at ex6
            exact ⟨rfl, _, rfl, _, rfl, kk6 _ _ (Same.refl _) rfl⟩
          · rintro D6 He zs nw6 hlen6 he6
            have ez : zs = (negF ((stF (m + 1) (allT (m + 1) ts) (ts.length + 1)).ls.getD i [])).map V.int := by
              rw [list_of hlen6 he6, List.length_map]
              unfold negF
              apply List.ext_getElem
              · simp
              · intro i h1 h2
                simp only [List.length_map, List.length_range] at h1
                rw [List.getElem_map, List.getElem_range, List.getElem_map, List.getElem_map, List.getD_eq_getElem?_getD (l := (stF (m + 1) (allT (m + 1) ts) (ts.length + 1)).ls.getD _ []), List.getElem?_eq_getElem h1]
                rfl
            refine ⟨D6, _, rfl, .inl ⟨SqL.of nw6.2.1, fun q nq => ?_⟩⟩
            have s7 := nw6.2.2.trans (same_new (o := .tup zs) nq)
            exact kk _ _ s7 ⟨q, rfl, by rw [← ez]; exact seqT_nl (nl_del (s7 _ _ hD)) (SqT.of upd_same)⟩
        · rintro D5 Hd zs nw5 hlen5 he5
          refine ⟨p4, D5, _, _, rfl, rfl, nw5.2.2 _ _ n5.2.1, nw5.2.1, by rw [List.length_append]; omega, fun r H7 n7 => ?_⟩
          have s57 := n5.2.2.trans (nw5.2.2.trans n7.2.2)
          refine k r _ H7 (s04.trans s57) n7.2.1 ?_
          unfold arrF
          refine VA.app ((hws.app hus).same s57) ?_
          refine ⟨by rw [hlen5, List.length_map, hus.1], fun j y ej => ?_⟩
          obtain ⟨b, rfl, hb⟩ := he5 j y ej
          have hj : j < (stF (m + 1) (allT (m + 1) ts) (ts.length + 1)).ls.length := by rw [← hus.1, ← hlen5]; exact (List.getElem?_eq_some_iff.mp ej).1
          refine ⟨b, rfl, ?_⟩
          have hb2 := Same.seqT ((del_same (H := Hd) (D := D5)).trans n7.2.2) hb
          rw [List.getD_eq_getElem?_getD, List.getElem?_map, List.getElem?_eq_getElem hj]
          rw [List.getD_eq_getElem?_getD, List.getElem?_eq_getElem hj] at hb2
          exact hb2
end
end Pg
set_option Elab.async false
set_option linter.all false
set_option maxRecDepth 100000
set_option maxHeartbeats 8000000
set_option exponentiation.threshold 10000
namespace Dd
def lastI (g : List Int) : Int := g.getD (g.length - 1) 0
def reachF (fs : List (List Int)) : Bool := fs.any fun a => decide (0 < lastI a)
def endF (fs : List (List Int)) (f : List Int) : List (List Int) := fs.filter fun a => decide (lastI a = 0) && decide (dot f a < 0)
def valsF (fs : List (List Int)) (f : List Int) : List (List Int) := (fs.filter fun a => decide (0 < lastI a)).map fun a => [dot f a, lastI a]
def lessP (v b : List Int) : Bool := decide (v.getD 0 0 * b.getD 1 0 < b.getD 0 0 * v.getD 1 0)
def stepB (b v : List Int) : List Int := if lessP v b then v else b
theorem best_mem : ∀ (us vs : List (List Int)) (b : List Int), (∀ v ∈ us, v ∈ vs) → b ∈ vs → us.foldl stepB b ∈ vs
  | [], _, _, _, h => h
  | u :: us, vs, b, h1, h2 => best_mem us vs (stepB b u) (fun v hv => h1 v (List.mem_cons_of_mem _ hv)) (by
    unfold stepB
    split
    · exact h1 u (List.mem_cons_self ..)
    · exact h2)
def bestF (vs : List (List Int)) : List Int := vs.foldl stepB (vs.getD 0 [])
end Dd
namespace Pg
open PySem PySem.Spec PyProof.Rows L2 Gd Rl Te Vd Fx RZ Dd StX
abbrev sLat : Stmt := top 15
abbrev sRea : Stmt := top 16
theorem last_at {g : List Int} (h : 1 ≤ g.length) : atI (g.map V.int) (-1) = some (.int (lastI g)) := by
  refine atI_neg (j := 0) (by rw [List.length_map]; omega) ?_
  rw [List.length_map, List.getElem?_map, Nat.sub_zero]
  unfold lastI
  rw [List.getD_eq_getElem?_getD, List.getElem?_eq_getElem (show g.length - 1 < g.length by omega)]
  rfl
theorem gD_any (l : List (List Int)) (p : List Int → Bool) : ((List.range l.length).map fun i => p (l.getD i [])).any id = l.any p := by
  have e : ((List.range l.length).map fun i => p (l.getD i [])) = l.map p := by
    apply List.ext_getElem
    · simp
    · intro i h1 h2
      simp only [List.length_map, List.length_range] at h1
      simp [List.getD_eq_getElem?_getD, List.getElem?_eq_getElem h1]
  rw [e, List.any_map]
  rfl
section
variable {P : Program} {w : World} {K : PySem.W.Frag} {mg : Str → Option Value} {base : Heap} {f : Addr} {fd : FuncData}
def spRea (K : PySem.W.Frag) : Sp := fun vs H Q _ => ∃ (l : Addr) (xs : List V) (fs : List (List Int)), vs = [.ref l] ∧ SqL K H l xs ∧ VA K H xs fs ∧ (∀ g ∈ fs, 1 ≤ g.length) ∧ fs.length ≤ 100000 ∧ ∀ H', Same H H' → Q (.bl (reachF fs)) H'
abbrev nRea : List Str := ["found", "arrow"]
theorem scRea : FnScope nRea ["found"] (defScope sRea) := ⟨rfl, rfl, rfl, by decide +kernel, rfl, by decide +kernel, by decide +kernel⟩
theorem ok_rea (F : FnP K "reach_points" sRea f fd) (M : Mo mg) : FnOk P w K mg base CX0 1 f fd ["found"] (spRea K) := by
  refine F.ok scRea (fun vs H Q E h => ?_) (fun cdv A outer s H vs Q E hr h => ?_)
  · obtain ⟨l, xs, fs, rfl, _⟩ := h
    rfl
  · obtain ⟨l, xs, fs, rfl, hl, hxs, h1, fl, k⟩ := h
    refine ⟨_, PSs.nox <| pss_one (ps_ret (pe_callB (cr_any rfl) (by rfl) M.any (by decide +kernel) (pa_cons (pe_lc (own := [("arrow", 1)]) (g := gName 1) (tt := tYes) rfl scRea.nd (pi_list (pv 0)) (blkOk_by (N := nRea) (sc := defScope sRea) (by decide +kernel)) (fun _ _ _ _ _ => pg_name (i := 1) scRea.nd rfl (Or.inl rfl)) (fun _ _ _ _ _ => pts_nil)
        (fun _ _ _ _ _ => pe_cmpR op_gt (pe_ix (r := rIxT K) ix_tup (pv 1) (pe_un un_neg pe_int) (fun _ _ => rfl)) pe_int (nomark _))) pa_nil))), ?_⟩
    refine ⟨_, rfl, l, rfl, ⟨_, hl⟩, lcW (walk_list (xs := xs)) (n1 := by rw [hxs.1]; exact fl) (fun H' s' => s'.seq hl) (fun i y _ => y = .bl (decide (0 < lastI (fs.getD i [])))) (fun _ _ _ _ _ e => e) ?_ ?_⟩
    · rintro D acc i x Ha Hb K2 hi s nD hD ⟨rfl, ex⟩ kk
      obtain ⟨a, rfl, ha, hm⟩ := hxs.at ex
      exact ⟨rfl, _, rfl, _, rfl, a, _, -1, _, rfl, rfl, Same.seqT s ha, last_at (h1 _ hm), _, _, rfl, rfl, kk _ _ (Same.refl _) rfl⟩
    · rintro D Hb ys nw hlen he
      have ey : ys = ((List.range fs.length).map fun i => decide (0 < lastI (fs.getD i []))).map V.bl := by
        rw [List.map_map]
        exact list_of (by rw [hlen, hxs.1]) he
      refine ⟨D, _, rfl, by rw [← ey]; exact SqL.of nw.2.1, ?_⟩
      rw [gD_any fs (fun a => decide (0 < lastI a))]
      exact k Hb nw.2.2
def spLat (K : PySem.W.Frag) : Sp := fun vs H Q _ => ∃ (l a : Addr) (xs : List V) (fs : List (List Int)) (g : List Int) (n : Nat), vs = [.ref l, .ref a] ∧ SqL K H l xs ∧ VA K H xs fs ∧ SqT K H a (g.map V.int) ∧ 1 ≤ n ∧ n ≤ 4 ∧ Ln n fs ∧ g.length = n ∧ Bds 8600 fs ∧ Bd 400 g ∧ fs.length ≤ 100000 ∧
  (reachF fs = false → ∀ H', Same H H' → Q .non H') ∧ (reachF fs = true → endF fs g ≠ [] → ∀ H', Same H H' → Q (.str "endless") H') ∧ (reachF fs = true → endF fs g = [] → ∀ b H', Same H H' → SqT K H' b ((lowF (bestF (valsF fs g))).map V.int) → Q (.ref b) H')
abbrev nLat : List Str := ["found", "form", "values", "best", "value", "arrow"]
theorem scLat : FnScope nLat ["found", "form"] (defScope sLat) := ⟨rfl, rfl, rfl, by decide +kernel, rfl, by decide +kernel, by decide +kernel⟩
theorem ok_lat {fW fL fR : Addr} {dW dL dR : FuncData} (F : FnP K "least_at" sLat f fd) (M : Mo mg) (gg : mg "gcd" = some (.builtin "math.gcd")) (FW : FnP K "weighed" sWei fW dW) (gW : mg "weighed" = some (.ref fW)) (FL : FnP K "lowest" sLow fL dL) (gL : mg "lowest" = some (.ref fL)) (FR : FnP K "reach_points" sRea fR dR) (gR : mg "reach_points" = some (.ref fR)) : FnOk P w K mg base CX0 2 f fd ["found", "form"] (spLat K) := by
  have GW : FnOk P w K mg base CX0 1 fW dW ["form", "numbers"] (spWei K) := ok_wei FW M
  have bW : Binds K dW ["form", "numbers"] [] := FW.bindsN fun _ _ _ _ _ _ us hl => match us, hl with | [_, _], _ => rfl
  have GL : FnOk P w K mg base CX0 1 fL dL ["numbers"] (spLow K) := ok_low FL M gg
  have bL : Binds K dL ["numbers"] [] := FL.bindsN fun _ _ _ _ _ _ us hl => match us, hl with | [_], _ => rfl
  have GR : FnOk P w K mg base CX0 1 fR dR ["found"] (spRea K) := ok_rea FR M
  have bR : Binds K dR ["found"] [] := FR.bindsN fun _ _ _ _ _ _ us hl => match us, hl with | [_], _ => rfl
  refine F.ok scLat (fun vs H Q E h => ?_) (fun cdv A outer s H vs Q E hr h => ?_)
  · obtain ⟨l, a, xs, fs, g, n, rfl, _⟩ := h
    rfl
  · obtain ⟨l, a, xs, fs, g, n, rfl, hl, hxs, ha, n1, n4, lf, lg, bf, bg, fl, kN, kE, kL⟩ := h
    refine ⟨_, PSs.nox <| pss_cons (ps_if (pt_not (pt_val (pe_call GR hr (by rfl) gR FR.kp bR .nil pass0 (pa_cons (pv 0) pa_nil)))) (pss_one (ps_ret pe_non)) pss_nil)
      <| pss_cons (ps_if (pt_truth (pe_lc (own := [("arrow", 5)]) (g := gName 5) rfl scLat.nd (pi_list (pv 0)) (blkOk_by (N := nLat) (sc := defScope sLat) (by decide +kernel)) (fun _ _ _ _ _ => pg_name (i := 5) scLat.nd rfl (Or.inl rfl))
          (fun _ _ _ _ _ => pts_one (PW.pt (pw_and (pt_cmpR op_eq (pe_ix (r := rIxT K) ix_tup (pv 5) (pe_un un_neg pe_int) (fun _ _ => rfl)) pe_int (nomark _)) (pw_and1 (pt_cmpR op_lt (pe_call GW hr (by rfl) gW FW.kp bW .nil pass0 (pa_cons (pv 1) (pa_cons (pv 5) pa_nil))) pe_int (nomark _))))))
          (fun _ _ _ _ _ => pv 5)) (by intro _; rfl)) (pss_one (ps_ret pe_str)) pss_nil)
      <| pss_cons (ps_setLc (i := 2) (own := [("arrow", 5)]) (g := gName 5) rfl scLat.nd rfl rfl (sw_true rfl rfl rfl (by decide +kernel)) (pi_list (pv 0)) (blkOk_by (N := nLat) (sc := defScope sLat) (by decide +kernel)) (fun _ _ _ _ _ => pg_name (i := 5) scLat.nd rfl (Or.inl rfl))
          (fun _ _ _ _ _ => pts_one (pt_cmpR op_gt (pe_ix (r := rIxT K) ix_tup (pv 5) (pe_un un_neg pe_int) (fun _ _ => rfl)) pe_int (nomark _)))
          (fun _ _ _ _ _ => pe_tupR (pa_cons (pe_call GW hr (by rfl) gW FW.kp bW .nil pass0 (pa_cons (pv 1) (pa_cons (pv 5) pa_nil))) (pa_cons (pe_ix (r := rIxT K) ix_tup (pv 5) (pe_un un_neg pe_int) (fun _ _ => rfl)) pa_nil))))
      <| pss_cons (ps_set (i := 3) scLat.nd rfl (.inl rfl) (pe_ix (r := rIxL K) ix_list (pv 2) pe_int (fun _ _ => rfl)))
      <| pss_cons (ps_for PassesOwn.never rfl (pi_list (pv 2)) (pg_name (i := 4) scLat.nd rfl (.inl rfl))
          (pss_one (ps_if (pt_cmpR op_lt (pe_op mulI (pe_ix (r := rIxT K) ix_tup (pv 4) pe_int (fun _ _ => rfl)) (pe_ix (r := rIxT K) ix_tup (pv 3) pe_int (fun _ _ => rfl))) (pe_op mulI (pe_ix (r := rIxT K) ix_tup (pv 3) pe_int (fun _ _ => rfl)) (pe_ix (r := rIxT K) ix_tup (pv 4) pe_int (fun _ _ => rfl))) (nomark _))
            (pss_one (ps_set (i := 3) scLat.nd rfl (.inl rfl) (pv 4))) pss_nil)))
      <| pss_one (ps_ret (pe_call GL hr (by rfl) gL FL.kp bL .nil pass0 (pa_cons (pv 3) pa_nil))), ?_⟩
    refine ⟨_, rfl, l, xs, fs, rfl, hl, hxs, fun g hg => by rw [lf g hg]; exact n1, fl, fun H1 s1 => ⟨_, rfl, ?_⟩⟩
    cases hre : reachF fs with
    | false => exact iteT (kN hre H1 s1)
    | true =>
      refine iteF ?_
      refine ⟨_, rfl, l, rfl, ⟨_, s1.seq hl⟩, lcF (walk_list (xs := xs)) (n1 := by rw [hxs.1]; exact fl) (fun H' s' => s'.seq (s1.seq hl)) (fun i => decide (lastI (fs.getD i []) = 0) && decide (dot g (fs.getD i []) < 0)) (fun i y H => ∃ a, y = .ref a ∧ SqT K H a ((fs.getD i []).map V.int)) (fun i y H H' s' ⟨a, e, h2⟩ => ⟨a, e, Same.seqT s' h2⟩) ?_ ?_⟩
      · rintro D acc i x Ha Hb K2 S hi s nD hD ⟨rfl, ex⟩ kk ks
        obtain ⟨b, rfl, hb, hm⟩ := (hxs.same s1).at ex
        have lb := lf _ hm
        refine ⟨rfl, _, rfl, _, rfl, b, _, -1, _, rfl, rfl, Same.seqT s hb, last_at (by omega), rfl, _, rfl, ?_⟩
        by_cases h1 : lastI (fs.getD i []) = 0
        · refine iteDY (c := V.int (lastI (fs.getD i [])) = V.int 0) (by rw [h1]) ?_
          refine ⟨_, rfl, _, rfl, a, b, g, _, 400, 8600, rfl, Same.seqT (s1.trans s) ha, Same.seqT s hb, by omega, by omega, bg, bf _ hm, by decide, by decide, fun H2 s2 => ⟨_, _, rfl, rfl, _, rfl, ?_⟩⟩
          by_cases h2 : dot g (fs.getD i []) < 0
          · exact iteDY h2 ⟨_, rfl, kk _ _ (by rw [decide_eq_true h1, decide_eq_true h2]; rfl) s2 ⟨b, rfl, seqT_nl (nl_del (s2 _ _ hD)) (Same.seqT (s.trans s2) hb)⟩⟩
          · exact iteDN h2 (ks _ (by rw [decide_eq_false h2, Bool.and_false]) s2)
        · exact iteDN (c := V.int (lastI (fs.getD i [])) = V.int 0) (fun e => h1 (V.int.inj e)) (ks _ (by rw [decide_eq_false h1, Bool.false_and]) (Same.refl _))
      · rintro D Hb cs nw hlen he
        rw [hxs.1] at hlen
        have hel : cs.length = (endF fs g).length := by
          rw [hlen]
          unfold endF
          rw [← filter_kept [] (fun a => decide (lastI a = 0) && decide (dot g a < 0)) fs, List.length_map]
        have sb := s1.trans nw.2.2
        refine ⟨_, .inl ⟨_, SqL.of nw.2.1, rfl⟩, ?_⟩
        cases cs with
        | cons c cr =>
          refine iteT (kE hre ?_ Hb sb)
          intro e
          rw [e] at hel
          cases hel
        | nil =>
          have hee : endF fs g = [] := List.length_eq_zero_iff.mp hel.symm
          refine iteF ?_
          refine ⟨_, rfl, l, rfl, ⟨_, sb.seq hl⟩, lcF (walk_list (xs := xs)) (n1 := by rw [hxs.1]; exact fl) (fun H' s' => s'.seq (sb.seq hl)) (fun i => decide (0 < lastI (fs.getD i []))) (fun i y H => ∃ b, y = .ref b ∧ SqT K H b ([dot g (fs.getD i []), lastI (fs.getD i [])].map V.int)) (fun i y H H' s' ⟨a, e, h2⟩ => ⟨a, e, Same.seqT s' h2⟩) ?_ ?_⟩
          · rintro D2 acc i x Ha Hc K2 S hi s nD hD ⟨rfl, ex⟩ kk ks
            obtain ⟨b, rfl, hb, hm⟩ := (hxs.same sb).at ex
            have lb := lf _ hm
            refine ⟨rfl, _, rfl, _, rfl, b, _, -1, _, rfl, rfl, Same.seqT s hb, last_at (by omega), _, _, rfl, rfl, _, rfl, ?_⟩
            by_cases h1 : 0 < lastI (fs.getD i [])
            · refine iteDY h1 ?_
              refine ⟨_, rfl, _, rfl, a, b, g, _, 400, 8600, rfl, Same.seqT (sb.trans s) ha, Same.seqT s hb, by omega, by omega, bg, bf _ hm, by decide, by decide, fun H2 s2 => ?_⟩
              refine ⟨_, rfl, _, rfl, b, _, -1, _, rfl, rfl, Same.seqT (s.trans s2) hb, last_at (by omega), by show 2 ≤ 1000; decide, fun p H3 n3 => ?_⟩
              have s23 := s2.trans n3.2.2
              exact kk _ _ (decide_eq_true h1) s23 ⟨p, rfl, seqT_nl (nl_del (s23 _ _ hD)) (SqT.of n3.2.1)⟩
            · exact iteDN h1 (ks _ (decide_eq_false h1) (Same.refl _))
          · rintro D2 Hc vs nw2 hlen2 he2
            rw [hxs.1] at hlen2 he2
            have hvs : VA K Hc vs (valsF fs g) := by
              have h2 := VA.kept (K := K) (H := Hc) (gs := fs) (b := fun i => decide (0 < lastI (fs.getD i []))) (ys := vs) (e := fun k => [dot g (fs.getD k []), lastI (fs.getD k [])]) (E := fun _ _ => True) hlen2 fun j y ej => by
                obtain ⟨k, ek, a, e, h3⟩ := he2 j y ej
                exact ⟨k, ek, a, e, Same.seqT del_same h3⟩
              have e : (kept (fun i => decide (0 < lastI (fs.getD i []))) fs.length).map (fun k => [dot g (fs.getD k []), lastI (fs.getD k [])]) = valsF fs g := by
                unfold valsF
                rw [← filter_kept [] (fun a => decide (0 < lastI a)) fs, List.map_map]
                rfl
              rw [e] at h2
              exact h2
            have vm : ∀ v ∈ valsF fs g, ∃ p q : Int, v = [p, q] ∧ p.natAbs < 2 ^ 9003 ∧ q.natAbs < 2 ^ 8600 ∧ 0 < q := fun v hv => by
              obtain ⟨c, hc, rfl⟩ := List.mem_map.mp hv
              obtain ⟨hc1, hc2⟩ := List.mem_filter.mp hc
              have lc := lf _ hc1
              refine ⟨_, _, rfl, dot_bd bg (bf _ hc1) (by omega) (by omega), ?_, of_decide_eq_true hc2⟩
              exact bf _ hc1 _ (getD_mem (by omega))
            have vne : 0 < (valsF fs g).length := by
              unfold reachF at hre
              obtain ⟨c, hc1, hc2⟩ := List.any_eq_true.mp hre
              unfold valsF
              rw [List.length_map]
              exact List.length_pos_of_mem (List.mem_filter.mpr ⟨hc1, hc2⟩)
            have sc := sb.trans nw2.2.2
            obtain ⟨x0, ex0⟩ : ∃ x0, vs[0]? = some x0 := ⟨_, List.getElem?_eq_getElem (by rw [hvs.1]; exact vne)⟩
            obtain ⟨b0, rfl, hb0, hm0⟩ := hvs.at ex0
            refine ⟨_, rfl, D2, vs, 0, _, rfl, rfl, SqL.of nw2.2.1, atI_nat ex0, ?_⟩
            refine ⟨_, rfl, D2, rfl, ⟨_, SqL.of nw2.2.1⟩, for_list (K := K) (a := D2) (xs := vs) (fun i σ H2 => ∃ bb x4, σ = [some (.ref l), some (.ref a), some (.ref D2), some (.ref bb), x4, none] ∧ Same Hc H2 ∧ SqT K H2 bb ((((valsF fs g).take i).foldl stepB ((valsF fs g).getD 0 [])).map V.int)) ⟨b0, none, rfl, Same.refl _, hb0⟩ (fun i σ H2 _ ⟨_, _, _, s2, _⟩ => SqL.of (s2 _ _ nw2.2.1)) ?_ ?_⟩
            · rintro i y σ H2 hi ⟨bb, x4, rfl, s2, hbb⟩
              obtain ⟨vb, rfl, hvb, hvm⟩ := hvs.at hi
              have hil : i < (valsF fs g).length := by rw [← hvs.1]; exact (List.getElem?_eq_some_iff.mp hi).1
              obtain ⟨p, q, ev, bp, bq, q0⟩ := vm _ hvm
              obtain ⟨p2, q2, eb, bp2, bq2, q02⟩ := vm _ (best_mem ((valsF fs g).take i) (valsF fs g) _ (fun v hv => List.mem_of_mem_take hv) hm0)
              have en : ((valsF fs g).take (i + 1)).foldl stepB ((valsF fs g).getD 0 []) = stepB (((valsF fs g).take i).foldl stepB ((valsF fs g).getD 0 [])) ((valsF fs g).getD i []) := by
                rw [List.take_add_one, List.getElem?_eq_getElem hil, List.foldl_append, List.getD_eq_getElem?_getD (l := valsF fs g) (i := i), List.getElem?_eq_getElem hil]
                rfl
              rw [ev] at hvb en
              rw [eb] at hbb en
              have hv2 := Same.seqT s2 hvb
              refine ⟨_, rfl, vb, _, 0, _, rfl, rfl, hv2, rfl, _, rfl, bb, _, 1, _, rfl, rfl, hbb, rfl, _, _, rfl, rfl, mul_ok bp bq2 (by decide) (by decide), _, rfl, bb, _, 0, _, rfl, rfl, hbb, rfl, _, rfl, vb, _, 1, _, rfl, rfl, hv2, rfl, _, _, rfl, rfl, mul_ok bp2 bq (by decide) (by decide), _, _, rfl, rfl, _, rfl, ?_⟩
              by_cases h1 : p * q2 < p2 * q
              · refine iteDY h1 ⟨_, rfl, vb, _, rfl, s2, ?_⟩
                rw [en]
                have e2 : stepB [p2, q2] [p, q] = [p, q] := if_pos (decide_eq_true h1)
                rw [e2]
                exact hv2
              · refine iteDN h1 ⟨bb, _, rfl, s2, ?_⟩
                rw [en]
                have e2 : stepB [p2, q2] [p, q] = [p2, q2] := if_neg (by show ¬ decide (p * q2 < p2 * q) = true; rw [decide_eq_false h1]; exact Bool.false_ne_true)
                rw [e2]
                exact hbb
            · rintro σ H2 ⟨bb, x4, rfl, s2, hbb⟩
              rw [hvs.1, List.take_length] at hbb
              obtain ⟨p2, q2, eb, bp2, bq2, q02⟩ := vm _ (best_mem (valsF fs g) (valsF fs g) _ (fun v hv => hv) hm0)
              have hbf : bestF (valsF fs g) = [p2, q2] := eb
              refine ⟨_, rfl, bb, bestF (valsF fs g), rfl, .inr hbb, ?_, ?_, ?_, fun b H3 s3 hb3 => kL hre hee b H3 ((sc.trans s2).trans s3) hb3⟩
              · rw [hbf]
                show (2 : Nat) ≤ 1000
                decide
              · rw [hbf]
                exact gcd_pos (z := q2) (by simp) (by omega)
              · rw [hbf]
                exact Nat.lt_of_le_of_lt (gcd_le (z := q2) (by simp) (by omega)) (Nat.lt_of_lt_of_le bq2 (Nat.pow_le_pow_right (by decide) (by decide)))
end
end Pg
set_option Elab.async false
set_option linter.all false
set_option maxRecDepth 100000
set_option maxHeartbeats 4000000
namespace K5
open PySem PySem.Spec PyProof.Rows L2 Gd Rl
open Pg (Mo)
abbrev sGr : Stmt := top 27
/-- a great number: below 10 ^ 27 -/
def spGr : Sp := fun vs H Q _ => ∃ p : Addr, vs = [.ref p] ∧ Well H p ∧ ∀ (r : Int) (H' : Hp), 0 ≤ r → r < 10 ^ 27 → Well H' p → But p H H' → Q (.int r) H'
theorem pow8 : ∀ i, i < 9 → (1000 : Int) ^ i ≤ 1000 ^ 8 := by decide
theorem pow9 : ∀ i, i < 10 → (1000 : Int) ^ i ≤ 1000 ^ 9 := by decide
abbrev nGr : List Str := ["_law_well_here", "_law_found", "_law_turn"]
theorem scGr : FnScope nGr ["_law_well_here"] (defScope sGr) := ⟨rfl, rfl, rfl, by decide +kernel, rfl, by decide +kernel, by decide +kernel⟩
section
variable {P : Program} {w : World} {K : PySem.W.Frag} {mg : Str → Option Value} {base : Heap} {f : Addr} {fd : FuncData}
theorem ok_great {fC : Addr} {fdC : FuncData} (F : FnP K "_law_great" sGr f fd) (T : Bl mg) (M : Mo mg) (FC : FnP K "_law_draw" sDraw fC fdC) (gC : mg "_law_draw" = some (.ref fC)) : FnOk P w K mg base CX0 2 f fd ["_law_well_here"] spGr := by
  have GC : FnOk P w K mg base CX0 1 fC fdC ["_law_well_here", "_law_many"] spDraw := ok_draw FC T
  have bC : Binds K fdC ["_law_well_here", "_law_many"] [] := FC.bindsN fun _ _ _ _ _ _ us hl => match us, hl with | [_, _], _ => rfl
  refine F.ok scGr (fun vs H Q E h => ?_) (fun cdv A outer s H vs Q E hr h => ?_)
  · obtain ⟨p, rfl, _⟩ := h
    rfl
  · obtain ⟨p, rfl, hp, k⟩ := h
    refine ⟨_, PSs.nox <| pss_cons (ps_set (i := 1) scGr.nd rfl (.inl rfl) pe_int) <| pss_cons (ps_for PassesOwn.never rfl (pi_range1 (by rfl) M.range (pa_cons (pe_op op_add pe_int (pe_call GC hr (by rfl) gC FC.kp bC .nil pass0 (pa_cons (pv 0) (pa_cons pe_int pa_nil)))) pa_nil)) (pg_name (i := 2) scGr.nd rfl (.inl rfl))
        (pss_one (ps_set (i := 1) scGr.nd rfl (.inl rfl) (pe_op op_add (pe_op op_mulW pe_int (pv 1)) (pe_call GC hr (by rfl) gC FC.kp bC .nil pass0 (pa_cons (pv 0) (pa_cons pe_int pa_nil)))))))
      <| pss_one (ps_ret (pv 1)), ?_⟩
    refine ⟨_, rfl, p, _, rfl, hp, by decide, by decide, fun c H1 c0 c9 hp1 b1 => ⟨_, _, rfl, rfl, ?_⟩⟩
    refine ⟨_, rfl, by omega, by omega, for_range (n := (1 + c).toNat) (fun i σ H' => ∃ (r : Int) (x : Option V), σ = [some (.ref p), some (.int r), x] ∧ 0 ≤ r ∧ r < 1000 ^ i ∧ Well H' p ∧ But p H H') ⟨0, none, rfl, by decide, by decide, hp1, b1⟩ ?_ ?_⟩
    · rintro i σ H2 hi ⟨r, x, rfl, r0, r1, hp2, b2⟩
      have i9 : i ≤ 8 := by omega
      have e9 : (1000 : Int) ^ i ≤ 1000 ^ 8 := pow8 i (by omega)
      have rb : r.natAbs < 2 ^ 90 := by
        have : (1000 : Int) ^ 8 < 2 ^ 90 := by decide
        omega
      refine ⟨_, rfl, _, _, rfl, rfl, wide_mul (a := 10) (b := 90) (by decide) rb (by decide) (by decide) (by decide), _, rfl, p, _, rfl, hp2, by decide, by decide, fun d H3 d0 d9 hp3 b3 => ⟨_, _, rfl, rfl, 1000 * r + d, _, rfl, by omega, ?_, hp3, b2.trans b3⟩⟩
      rw [Int.pow_succ]
      omega
    · rintro σ H2 ⟨r, x, rfl, r0, r1, hp2, b2⟩
      refine ⟨_, rfl, k r H2 r0 ?_ hp2 b2⟩
      have e : (1000 : Int) ^ (1 + c).toNat ≤ 1000 ^ 9 := pow9 _ (by omega)
      have e2 : (1000 : Int) ^ 9 = 10 ^ 27 := by decide
      omega
end
end K5
set_option Elab.async false
set_option linter.all false
set_option maxRecDepth 100000
set_option maxHeartbeats 8000000
set_option exponentiation.threshold 10000
namespace Pg
open PySem PySem.Spec PyProof.Rows L2 Gd Rl Te Vd Fx Hy RZ Dd StX
abbrev sLst : Stmt := top 12
theorem vp_va {K : PySem.W.Frag} {H : Hp} {xs : List V} {ts : List (List Int)} (h : VpAll K H xs (ts.map fD)) : VA K H xs ts := by
  have l := vp_len h
  rw [List.length_map] at l
  refine ⟨l, fun i x e => ?_⟩
  obtain ⟨d, ed, hd⟩ := vp_at h e
  have hi : i < ts.length := by rw [← l]; exact (List.getElem?_eq_some_iff.mp e).1
  rw [List.getElem?_map, List.getElem?_eq_getElem hi] at ed
  cases ed
  obtain ⟨a, rfl, ha⟩ := vp_form hd
  refine ⟨a, rfl, ?_⟩
  rw [List.getD_eq_getElem?_getD, List.getElem?_eq_getElem hi]
  exact ha
/-- what a right question is answered from -/
structure LstOk (n : Nat) (ts : List (List Int)) (g : List Int) : Prop where
  n2 : 2 ≤ n
  n4 : n ≤ 4
  lt : Ln n ts
  lg : g.length = n
  bt : Bds 400 ts
  bg : Bd 400 g
  tl : ts.length ≤ 900
  ok : ArrOk n ts
  la : Ln n (arrF n ts)
  ba : Bds 8600 (arrF n ts)
  al : (arrF n ts).length ≤ 100000
theorem with0 {G R : Prop} (h : R → G) (hR : R) : G := h hR
section
variable {P : Program} {w : World} {K : PySem.W.Frag} {mg : Str → Option Value} {base : Heap} {f : Addr} {fd : FuncData}
/-- the answer: none, endless, or a pair in its least form -/
def LstAns (K : PySem.W.Frag) (H : Hp) (n : Nat) (ts : List (List Int)) (g : List Int) (Q : VK) : Prop :=
  (reachF (arrF n ts) = false → ∀ H', Same H H' → Q .non H') ∧ (reachF (arrF n ts) = true → endF (arrF n ts) g ≠ [] → ∀ H', Same H H' → Q (.str "endless") H') ∧ (reachF (arrF n ts) = true → endF (arrF n ts) g = [] → ∀ b H', Same H H' → SqT K H' b ((lowF (bestF (valsF (arrF n ts) g))).map V.int) → Q (.ref b) H')
def spLst (K : PySem.W.Frag) (CN CF : Addr) : Sp := fun vs H Q E => ∃ (v u : V) (d e : PyData), vs = [v, u] ∧ Vp K H v d ∧ Vp K H u e ∧ Wd3 d ∧ Wd2 e ∧
  (((∀ ds, d ≠ .tuple ds) ∧ OutV E H CN "index" .non) ∨ (∃ ds i, d = .tuple ds ∧ i < ds.length ∧ (∀ j, j < i → badT ds j = false) ∧ badT ds i = true ∧ OutV E H CN "index" (.int (i : Nat))) ∨
   (∃ ds, d = .tuple ds ∧ (∀ i, i < ds.length → badT ds i = false) ∧ (fmB e = false ∨ (ds ≠ [] ∧ fmB e = true ∧ lenD e ≠ lenD (ds.getD 0 .none))) ∧ OutV E H CF "given" u) ∨
   ∃ n ts g, d = .tuple (ts.map fD) ∧ e = fD g ∧ (∀ i, i < ts.length → badT (ts.map fD) i = false) ∧ LstOk n ts g ∧ LstAns K H n ts g Q)
theorem scLst : FnScope ["tests", "form"] ["tests", "form"] (defScope sLst) := ⟨rfl, rfl, rfl, by decide +kernel, rfl, by decide +kernel, by decide +kernel⟩
theorem out_sm {E : XK} {H H1 : Hp} {C : Addr} {f : Str} {v : V} (s : Same H H1) (h : OutV E H C f v) : OutV E H1 C f v := fun H2 dd s2 n => h H2 dd (s.trans s2) n
theorem ok_lst {fI fM fA fK fW fL fV fN fC fX fR fT fP CN WN fE CF WF fG : Addr} {dI dM dA dK dW dL dV dN dC dX dR dT dP : FuncData} (F : FnP K "least" sLst f fd) (M : Mo mg) (gg : mg "gcd" = some (.builtin "math.gcd"))
    (FI : FnP K "is_integer" sInt fI dI) (gI : mg "is_integer" = some (.ref fI)) (FM : FnP K "are_integers" sInts fM dM) (gM : mg "are_integers" = some (.ref fM)) (FA : FnP K "_is_any_form" sAnyF fA dA) (gA : mg "_is_any_form" = some (.ref fA)) (FK : FnP K "_check_tests" sChk fK dK) (gK : mg "_check_tests" = some (.ref fK))
    (FW : FnP K "weighed" sWei fW dW) (gW : mg "weighed" = some (.ref fW)) (FL : FnP K "lowest" sLow fL dL) (gL : mg "lowest" = some (.ref fL)) (FV : FnP K "_leveled" sLev fV dV) (gV : mg "_leveled" = some (.ref fV)) (FN : FnP K "_are_neighbours" sNb fN dN) (gN : mg "_are_neighbours" = some (.ref fN))
    (FC : FnP K "_cut_arrows" sCa fC dC) (gC : mg "_cut_arrows" = some (.ref fC)) (FX : FnP K "_cut" sCut fX dX) (gX : mg "_cut" = some (.ref fX)) (FR : FnP K "arrows" sArr fR dR) (gR : mg "arrows" = some (.ref fR)) (FT : FnP K "least_at" sLat fT dT) (gT : mg "least_at" = some (.ref fT)) (FP : FnP K "reach_points" sRea fP dP) (gP : mg "reach_points" = some (.ref fP))
    (XE : ErrK P K mg "InvalidForms" CN WN fE "index") (XF : ErrK P K mg "InvalidForm" CF WF fG "given") : FnOk P w K mg base (L2.CX P w) 6 f fd ["tests", "form"] (spLst K CN CF) := by
  have GA : FnOk P w K mg base CX0 3 fA dA ["value"] (spAF K) := ok_anyf FA M FI gI FM gM
  have bA : Binds K dA ["value"] [] := FA.bindsN fun _ _ _ _ _ _ us hl => match us, hl with | [_], _ => rfl
  have GK : FnOk P w K mg base (L2.CX P w) 4 fK dK ["tests"] (spCT K CN) := ok_chk FK M FI gI FM gM FA gA XE
  have bK : Binds K dK ["tests"] [] := FK.bindsN fun _ _ _ _ _ _ us hl => match us, hl with | [_], _ => rfl
  have GR : FnOk P w K mg base CX0 5 fR dR ["tests", "many"] (spArr K) := ok_arr FR M gg FW gW FL gL FV gV FN gN FC gC FX gX
  have bR : Binds K dR ["tests", "many"] [] := FR.bindsN fun _ _ _ _ _ _ us hl => match us, hl with | [_, _], _ => rfl
  have GT : FnOk P w K mg base CX0 2 fT dT ["found", "form"] (spLat K) := ok_lat FT M gg FW gW FL gL FP gP
  have bT : Binds K dT ["found", "form"] [] := FT.bindsN fun _ _ _ _ _ _ us hl => match us, hl with | [_, _], _ => rfl
  refine okX F scLst (fun vs H Q E h => ?_) (fun cdv A outer s H vs Q E hr h => ?_)
  · obtain ⟨v, u, d, e, rfl, _⟩ := h
    rfl
  · obtain ⟨v, u, d, e, rfl, hv, hu, wd, we, h⟩ := h
    have hr2 := hr.mono (show 2 ≤ 5 by decide)
    have hr3 := hr.mono (show 3 ≤ 5 by decide)
    have hr4 := hr.mono (show 4 ≤ 5 by decide)
    refine ⟨_, pss_cons (ps_expr (pe_callS GK hr4 (by rfl) gK FK.kp bK (fun σ => passAt (takes_of rfl rfl rfl rfl) σ) (pa_cons (pv 0) pa_nil)))
      <| pss_cons (ps_if (PW.pt (pw_or (pt_not (pt_val (pe_call GA hr3 (by rfl) gA FA.kp bA .nil pass0 (pa_cons (pv 1) pa_nil)))) (pw_or1 (PW.pt (pw_and (pt_truth (pv 0) (by intro _; rfl)) (pw_and1 (pt_cmpR op_ne (pe_callB call_len (by rfl) M.len PySem.boot_len (pa_cons (pv 1) pa_nil)) (pe_callB call_len (by rfl) M.len PySem.boot_len (pa_cons (pe_ix (r := rIxT K) ix_tup (pv 0) pe_int (fun _ _ => rfl)) pa_nil)) (nomark _))))))))
          (pss_one (ps_raise rfl (takes_of rfl rfl rfl rfl) (pmk_err rootV XF.e (raises_own XF.sub XF.ty) hr2 XF.g (by rfl) (pv 1)))) pss_nil)
      <| pss_one (ps_ret (pe_call GT hr2 (by rfl) gT FT.kp bT .nil pass0 (pa_cons (pe_call GR hr (by rfl) gR FR.kp bR .nil pass0 (pa_cons (pv 0) (pa_cons (pe_op op_sub (pe_callB call_len (by rfl) M.len PySem.boot_len (pa_cons (pv 1) pa_nil)) pe_int) pa_nil))) (pa_cons (pv 1) pa_nil)))), ?_⟩
    refine ⟨_, rfl, v, d, rfl, hv, wd, ?_, ?_, ?_⟩
    · rintro ds rfl hall H1 s1
      refine ⟨_, rfl, u, e, rfl, vp_same s1 hu, we, fun H2 s2 => ⟨_, rfl, ?_⟩⟩
      have s12 := s1.trans s2
      obtain ⟨a, xs, rfl, hs, hxs⟩ := vp_tup hv
      have lx := vp_len hxs
      have hs2 := Same.seqT s12 hs
      rcases h with ⟨hn, _⟩ | ⟨ds', i', e1, hi', hj', hb', k⟩ | ⟨ds', e1, _, hbad, k⟩ | ⟨n, ts, g, e1, rfl, _, lo, k⟩
      · exact absurd rfl (hn ds)
      · cases e1
        rw [hall i' hi'] at hb'
        cases hb'
      · cases e1
        cases hf : fmB e with
        | false => exact iteT ⟨_, rfl, fun dd nd => k H2 dd s12 nd⟩
        | true =>
          refine iteF ?_
          obtain ⟨g, rfl, hg⟩ := fm_is hf
          obtain ⟨b, rfl, hb⟩ := vp_form (vp_same s12 hu)
          have hne : ds ≠ [] ∧ lenD (fD g) ≠ lenD (ds.getD 0 .none) := by
            rcases hbad with q | q
            · rw [hf] at q
              cases q
            · exact ⟨q.1, q.2.2⟩
          have hpos : 0 < ds.length := List.length_pos_iff.mpr hne.1
          have hx : xs.isEmpty = false := by
            cases xs with
            | nil =>
              simp at lx
              omega
            | cons => rfl
          refine ⟨_, rfl, !xs.isEmpty, .inr (.inl ⟨_, hs2, rfl⟩), ?_⟩
          rw [hx]
          refine iteT ?_
          obtain ⟨x0, ex0⟩ : ∃ x0, xs[0]? = some x0 := ⟨_, List.getElem?_eq_getElem (by omega)⟩
          obtain ⟨d0, ed0, hx0⟩ := vp_at hxs ex0
          have hf0 : fmB d0 = true := by
            have := hall 0 hpos
            unfold badT at this
            rw [getP_at ed0] at this
            cases q : fmB d0 with
            | true => rfl
            | false =>
              rw [q] at this
              simp at this
          obtain ⟨n0, rfl, hn0⟩ := fm_is hf0
          obtain ⟨b0, rfl, hb0⟩ := vp_form (vp_same s12 hx0)
          refine ⟨_, rfl, _, _, rfl, .inr ⟨_, hb, rfl⟩, _, rfl, a, _, 0, _, rfl, rfl, hs2, atI_nat ex0, _, _, rfl, .inr ⟨_, hb0, rfl⟩, rfl, _, rfl, ?_⟩
          have hl : ¬ g.length = n0.length := fun q => hne.2 (by
            rw [getP_at ed0]
            show (g.map PyData.int).length = (n0.map PyData.int).length
            rw [List.length_map, List.length_map, q])
          simp only [List.length_map]
          rw [show (!decide (V.int ((g.length : Nat) : Int) = V.int ((n0.length : Nat) : Int))) = true by
            rw [decide_eq_false fun e => hl (by have := V.int.inj e; omega)]
            rfl]
          exact iteT ⟨_, rfl, fun dd nd => k H2 dd s12 nd⟩
      · cases e1
        have hxa := (vp_va hxs).same s12
        obtain ⟨b, rfl, hb⟩ := vp_form (vp_same s12 hu)
        have hf : fmB (fD g) = true := by
          have hall2 : ∀ m, intsB m (fD g) = decide (g.length = m) := fun m => by
            show (decide ((g.map PyData.int).length = m) && (g.map PyData.int).all intB) = _
            rw [List.length_map, show (g.map PyData.int).all intB = true from List.all_eq_true.mpr fun x hx => by obtain ⟨z, _, rfl⟩ := List.mem_map.mp hx; rfl, Bool.and_true]
          unfold fmB
          rw [hall2, hall2, hall2]
          have := lo.n2
          have := lo.n4
          have := lo.lg
          rcases (show g.length = 2 ∨ g.length = 3 ∨ g.length = 4 by omega) with q | q | q <;> simp [q]
        rw [hf]
        refine iteF ?_
        have lts : xs.length = ts.length := hxa.1
        obtain ⟨m, rfl⟩ : ∃ m, n = m + 1 := ⟨n - 1, by have := lo.n2; omega⟩
        have n2 := lo.n2
        have n4 := lo.n4
        have lg := lo.lg
        apply with0
        · intro kR
          refine ⟨_, rfl, !xs.isEmpty, .inr (.inl ⟨_, hs2, rfl⟩), ?_⟩
          cases hx : xs.isEmpty with
          | true => exact iteF kR
          | false =>
            refine iteT ?_
            have hpos : 0 < xs.length := by
              cases xs with
              | nil => cases hx
              | cons => simp
            obtain ⟨x0, ex0⟩ : ∃ x0, xs[0]? = some x0 := ⟨_, List.getElem?_eq_getElem hpos⟩
            obtain ⟨b0, rfl, hb0, hm0⟩ := hxa.at ex0
            have l0 := lo.lt _ hm0
            refine ⟨_, rfl, _, _, rfl, .inr ⟨_, hb, rfl⟩, _, rfl, a, _, 0, _, rfl, rfl, hs2, atI_nat ex0, _, _, rfl, .inr ⟨_, hb0, rfl⟩, rfl, _, rfl, ?_⟩
            simp only [List.length_map]
            rw [show (!decide (V.int ((g.length : Nat) : Int) = V.int (((ts.getD 0 []).length : Nat) : Int))) = false by rw [lg, l0]; simp]
            exact iteF kR
        · refine ⟨_, rfl, _, rfl, _, _, rfl, .inr ⟨_, hb, rfl⟩, _, _, rfl, rfl, ?_⟩
          refine ⟨a, m, xs, ts, ?_, hs2, hxa, by omega, by omega, lo.lt, lo.bt, lo.tl, lo.ok, fun r zs H3 s3 hr3 hz => ?_⟩
          · show [V.ref a, V.int (((g.map V.int).length : Nat) - 1 : Int)] = _
            rw [List.length_map, lg]
            have : (((m + 1 : Nat) : Int) - 1) = (m : Int) := by omega
            rw [this]
          · have s13 := s12.trans s3
            exact ⟨_, rfl, r, b, zs, _, g, m + 1, rfl, SqL.of hr3, hz, Same.seqT s3 hb, by omega, by omega, lo.la, lg, lo.ba, lo.bg, lo.al, fun q H4 s4 => k.1 q H4 (s13.trans s4), fun q1 q2 H4 s4 => k.2.1 q1 q2 H4 (s13.trans s4), fun q1 q2 b4 H4 s4 h4 => k.2.2 q1 q2 b4 H4 (s13.trans s4) h4⟩
    · intro hn
      rcases h with ⟨_, k⟩ | ⟨ds, _, rfl, _⟩ | ⟨ds, rfl, _⟩ | ⟨n, ts, g, rfl, _⟩
      · exact k
      · exact absurd rfl (hn ds)
      · exact absurd rfl (hn ds)
      · exact absurd rfl (hn _)
    · rintro ds i rfl hi hj hb
      rcases h with ⟨hn, _⟩ | ⟨ds', i', e1, hi', hj', hb', k⟩ | ⟨ds', e1, hall, _⟩ | ⟨n, ts, g, e1, _, hall, _⟩
      · exact absurd rfl (hn ds)
      · cases e1
        have : i = i' := by
          rcases Nat.lt_trichotomy i i' with q | q | q
          · rw [hj' i q] at hb
            cases hb
          · exact q
          · rw [hj i' q] at hb'
            cases hb'
        subst this
        exact k
      · cases e1
        rw [hall i hi] at hb
        cases hb
      · cases e1
        rw [List.length_map] at hi
        rw [hall i hi] at hb
        cases hb
end
end Pg
set_option Elab.async false
set_option linter.all false
set_option maxRecDepth 100000
set_option maxHeartbeats 8000000
set_option exponentiation.threshold 10000
namespace Dd
open Rl Pg
/-! ### sums -/
theorem sum_lin (k : Nat) (f g h : Nat → Int) (c d : Int) (e : ∀ i, i < k → f i = c * g i + d * h i) : ((List.range k).map f).sum = c * ((List.range k).map g).sum + d * ((List.range k).map h).sum := by
  induction k with
  | zero => simp
  | succ k ih =>
    simp only [List.range_succ, List.map_append, List.sum_append, List.map_cons, List.map_nil, List.sum_cons, List.sum_nil, Int.add_zero]
    rw [ih (fun i hi => e i (by omega)), e k (by omega)]
    rw [Int.mul_add, Int.mul_add]
    omega
theorem comb_getD {hi va : Int} {a u : List Int} {i : Nat} (h : i < a.length) : (combF hi va a u).getD i 0 = hi * a.getD i 0 - va * u.getD i 0 := by
  unfold combF
  rw [List.getD_eq_getElem?_getD, List.getElem?_map, List.getElem?_range h]
  rfl
theorem comb_len (hi va : Int) (a u : List Int) : (combF hi va a u).length = a.length := by simp [combF]
theorem dot_comb {hi va : Int} {a u t : List Int} (l : a.length = u.length) : dot t (combF hi va a u) = hi * dot t a - va * dot t u := by
  unfold dot
  rw [comb_len, ← l]
  rw [sum_lin a.length (fun i => t.getD i 0 * (combF hi va a u).getD i 0) (fun i => t.getD i 0 * a.getD i 0) (fun i => t.getD i 0 * u.getD i 0) hi (-va)]
  · rw [Int.neg_mul]; omega
  · intro i hi2
    rw [comb_getD hi2, Int.mul_sub, Int.mul_left_comm, Int.mul_left_comm _ va, Int.neg_mul]
    omega
theorem low_len (g : List Int) : (lowF g).length = g.length := by simp [lowF]
theorem low_getD {g : List Int} {i : Nat} (h : i < g.length) : (gcdF g : Int) * (lowF g).getD i 0 = g.getD i 0 := by
  unfold lowF
  rw [List.getD_eq_getElem?_getD, List.getElem?_map, List.getElem?_eq_getElem h, List.getD_eq_getElem?_getD, List.getElem?_eq_getElem h]
  exact Int.mul_ediv_cancel' (gcd_dvd (List.getElem_mem h))
theorem dot_low (t g : List Int) : (gcdF g : Int) * dot t (lowF g) = dot t g := by
  unfold dot
  rw [low_len]
  have := sum_lin g.length (fun i => t.getD i 0 * g.getD i 0) (fun i => t.getD i 0 * (lowF g).getD i 0) (fun _ => 0) (gcdF g : Int) 0 (fun i hi => by
    rw [← low_getD hi, Int.mul_left_comm]
    omega)
  rw [this]
  omega
theorem neg_getD {g : List Int} {i : Nat} (h : i < g.length) : (negF g).getD i 0 = -(g.getD i 0) := by
  unfold negF
  rw [List.getD_eq_getElem?_getD, List.getElem?_map, List.getElem?_eq_getElem h, List.getD_eq_getElem?_getD, List.getElem?_eq_getElem h]
  rfl
theorem dot_neg (t g : List Int) : dot t (negF g) = -dot t g := by
  unfold dot
  rw [neg_len]
  have := sum_lin g.length (fun i => t.getD i 0 * (negF g).getD i 0) (fun i => t.getD i 0 * g.getD i 0) (fun _ => 0) (-1) 0 (fun i hi => by
    rw [neg_getD hi, Int.mul_neg]
    omega)
  rw [this]
  omega
theorem dot_up {t a s : List Int} : dot s (upF a t) = dot s a ∨ dot s (upF a t) = -dot s a := by
  unfold upF
  split
  · exact .inr (dot_neg s a)
  · exact .inl rfl
theorem up_pos {t a : List Int} (h : dot t a ≠ 0) : 0 < dot t (upF a t) := by
  unfold upF
  split
  · rw [dot_neg]; omega
  · omega
theorem up_zero {a t : List Int} {i : Nat} (h : a.getD i 0 = 0) : (upF a t).getD i 0 = 0 := by
  unfold upF
  split
  · unfold negF
    rw [List.getD_eq_getElem?_getD, List.getElem?_map]
    rw [List.getD_eq_getElem?_getD] at h
    cases q : a[i]? with
    | none => rfl
    | some z =>
      rw [q] at h
      show -z = 0
      have : z = 0 := h
      omega
  · exact h
/-- not all nothing -/
theorem gcd_of_dot {t g : List Int} (h : dot t g ≠ 0) : 0 < gcdF g := by
  by_cases hz : ∃ z ∈ g, z ≠ 0
  · obtain ⟨z, hz, h0⟩ := hz
    exact gcd_pos hz h0
  · refine absurd ?_ h
    unfold dot
    have := sum_lin g.length (fun i => t.getD i 0 * g.getD i 0) (fun _ => 0) (fun _ => 0) 0 0 (fun i hi => by
      have : g.getD i 0 = 0 := Classical.byContradiction fun q => hz ⟨_, getD_mem hi, q⟩
      rw [this]
      omega)
    rw [this]
    omega
theorem gcd_of_at {g : List Int} {i : Nat} (hi : i < g.length) (h : g.getD i 0 ≠ 0) : 0 < gcdF g := gcd_pos (getD_mem hi) h
theorem low_pos {t g : List Int} (h0 : 0 < gcdF g) : (0 < dot t g ↔ 0 < dot t (lowF g)) ∧ (dot t g = 0 ↔ dot t (lowF g) = 0) ∧ (0 ≤ dot t g ↔ 0 ≤ dot t (lowF g)) := by
  have e := dot_low t g
  have hp : (0 : Int) < (gcdF g : Int) := by omega
  refine ⟨?_, ?_, ?_⟩
  · rw [← e]
    exact ⟨fun h => Int.pos_of_mul_pos_right h (by omega), fun h => Int.mul_pos hp h⟩
  · rw [← e]
    exact ⟨fun h => (Int.mul_eq_zero.mp h).resolve_left (by omega), fun h => by rw [h]; omega⟩
  · rw [← e]
    exact ⟨fun h => by
      rcases Int.lt_or_le (dot t (lowF g)) 0 with q | q
      · have := Int.mul_neg_of_pos_of_neg hp q
        omega
      · exact q, fun h => Int.mul_nonneg (by omega) h⟩
theorem low_bd {b : Nat} {g : List Int} (h : Bd b g) : Bd b (lowF g) := fun z hz => by
  obtain ⟨y, hy, rfl⟩ := List.mem_map.mp hz
  refine Nat.lt_of_le_of_lt ?_ (h y hy)
  exact Int.natAbs_ediv_le_natAbs y _
end Dd
set_option Elab.async false
set_option linter.all false
set_option maxRecDepth 100000
set_option maxHeartbeats 8000000
set_option exponentiation.threshold 10000
namespace Dd
open Rl Pg
/-! ### what stays true of lines and arrows -/
structure Inv (n : Nat) (s : St) : Prop where
  ll : Ln n s.ls
  lf : Ln n s.fs
  z : ∀ l ∈ s.ls, ∀ t ∈ s.ds, dot t l = 0
  f : ∀ a ∈ s.fs, (∀ t ∈ s.ds, 0 ≤ dot t a) ∧ ∃ t ∈ s.ds, 0 < dot t a
  p : ∀ l ∈ s.ls, ∃ i, i < n ∧ l.getD i 0 ≠ 0 ∧ ∀ k ∈ s.ls, k ≠ l → k.getD i 0 = 0
theorem acr_mem {ls : List (List Int)} {t a : List Int} {r : List (List Int)} (h : acrF ls t = a :: r) : a ∈ ls ∧ dot t a ≠ 0 := by
  have : a ∈ acrF ls t := by rw [h]; exact List.mem_cons_self ..
  obtain ⟨h1, h2⟩ := List.mem_filter.mp this
  refine ⟨h1, fun e => ?_⟩
  rw [decide_eq_true e] at h2
  cases h2
theorem acr_nil {ls : List (List Int)} {t : List Int} (h : acrF ls t = []) : ∀ l ∈ ls, dot t l = 0 := fun l hl => Classical.byContradiction fun q => by
  have : l ∈ acrF ls t := List.mem_filter.mpr ⟨hl, by rw [decide_eq_false q]; rfl⟩
  rw [h] at this
  cases this
section
variable {n : Nat} {s : St} {t : List Int}
/-- a line brought to the level is none at its own place -/
theorem lev_line (I : Inv n s) {a l : List Int} (ha : a ∈ s.ls) (hl : l ∈ s.ls) (hne : l ≠ a) (h0 : dot t a ≠ 0) : ∃ i, i < n ∧ l.getD i 0 ≠ 0 ∧ (combF (dot t (upF a t)) (dot t l) l (upF a t)).getD i 0 ≠ 0 ∧ ∀ k ∈ s.ls, k ≠ l → k ≠ a → (combF (dot t (upF a t)) (dot t k) k (upF a t)).getD i 0 = 0 := by
  obtain ⟨i, hi, h1, h2⟩ := I.p l hl
  have ua : (upF a t).getD i 0 = 0 := up_zero (h2 a ha (fun e => hne e.symm))
  have up := up_pos h0
  refine ⟨i, hi, h1, ?_, fun k hk k1 k2 => ?_⟩
  · rw [comb_getD (by rw [I.ll l hl]; exact hi), ua, Int.mul_zero, Int.sub_zero]
    exact Int.mul_ne_zero (by omega) h1
  · rw [comb_getD (by rw [I.ll k hk]; exact hi), ua, Int.mul_zero, Int.sub_zero, h2 k hk k1, Int.mul_zero]
theorem lev_arrow (I : Inv n s) {a f : List Int} (ha : a ∈ s.ls) (hf : f ∈ s.fs) : (∀ u ∈ s.ds, dot u (combF (dot t (upF a t)) (dot t f) f (upF a t)) = dot t (upF a t) * dot u f) := fun u hu => by
  rw [dot_comb (by rw [I.lf f hf, up_len, I.ll a ha])]
  have : dot u (upF a t) = 0 := by
    rcases dot_up (s := u) (a := a) (t := t) with e | e <;> rw [e, I.z a ha u hu]
    rfl
  rw [this, Int.mul_zero, Int.sub_zero]
theorem lev_pair (I : Inv n s) {u d : List Int} (hu : u ∈ s.fs) (hd : d ∈ s.fs) (h1 : 0 < dot t u) (h2 : dot t d < 0) :
    (∀ c ∈ s.ds, 0 ≤ dot c (combF (dot t u) (dot t d) d u)) ∧ (∃ c ∈ s.ds, 0 < dot c (combF (dot t u) (dot t d) d u)) ∧ dot t (combF (dot t u) (dot t d) d u) = 0 := by
  have l : d.length = u.length := by rw [I.lf d hd, I.lf u hu]
  have key : ∀ c ∈ s.ds, 0 ≤ dot t u * dot c d ∧ 0 ≤ (-dot t d) * dot c u := fun c hc => ⟨Int.mul_nonneg (by omega) ((I.f d hd).1 c hc), Int.mul_nonneg (by omega) ((I.f u hu).1 c hc)⟩
  refine ⟨fun c hc => ?_, ?_, ?_⟩
  · rw [dot_comb l]
    have := key c hc
    rw [Int.neg_mul] at this
    omega
  · obtain ⟨c, hc, hp⟩ := (I.f d hd).2
    refine ⟨c, hc, ?_⟩
    rw [dot_comb l]
    have h3 := (key c hc).2
    rw [Int.neg_mul] at h3
    have := Int.mul_pos h1 hp
    omega
  · rw [dot_comb l, Int.mul_comm]
    omega
theorem inv_ok (I : Inv n s) : CutOk s.ls s.fs s.ds t := by
  unfold CutOk
  cases h : acrF s.ls t with
  | nil =>
    intro i j hi hj h1 h2
    obtain ⟨_, ⟨c, hc, hp⟩, _⟩ := lev_pair I (gD_mem hi) (gD_mem hj) h1 h2
    exact gcd_of_dot (t := c) (by omega)
  | cons a r =>
    obtain ⟨ha, h0⟩ := acr_mem h
    refine ⟨fun l hl hne => ?_, fun f hf => ?_⟩
    · obtain ⟨i, hi, _, h1, _⟩ := lev_line (t := t) I ha hl hne h0
      exact gcd_of_at (by rw [comb_len, I.ll l hl]; exact hi) h1
    · obtain ⟨c, hc, hp⟩ := (I.f f hf).2
      have := lev_arrow (t := t) I ha hf c hc
      refine gcd_of_dot (t := c) ?_
      rw [this]
      exact Int.mul_ne_zero (by have := up_pos h0; omega) (by omega)
theorem lev_len (a u t : List Int) : (levF a u t).length = a.length := by
  unfold levF
  rw [low_len, comb_len]
theorem low_at {g : List Int} {i : Nat} (h0 : 0 < gcdF g) (hi : i < g.length) : (lowF g).getD i 0 = 0 ↔ g.getD i 0 = 0 := by
  have e := low_getD hi
  constructor
  · intro h
    rw [← e, h, Int.mul_zero]
  · intro h
    rw [h] at e
    exact (Int.mul_eq_zero.mp e).resolve_left (by omega)
theorem inv_next (I : Inv n s) (lt : t.length = n) : Inv n (s.next t) := by
  have ok : CutOk s.ls s.fs s.ds t := inv_ok I
  unfold CutOk at ok
  cases h : acrF s.ls t with
  | nil =>
    rw [h] at ok
    have z0 := acr_nil h
    have e1 : (s.next t).ls = s.ls := by show cutL s.ls t = _; unfold cutL; rw [h]
    have e2 : (s.next t).fs = cutA s.fs s.ds t := by show cutF s.ls s.fs s.ds t = _; unfold cutF; rw [h]
    have e3 : (s.next t).ds = s.ds ++ [t] := rfl
    have mem : ∀ a ∈ cutA s.fs s.ds t, (a ∈ s.fs ∧ 0 ≤ dot t a) ∨ ∃ u d, u ∈ s.fs ∧ d ∈ s.fs ∧ 0 < dot t u ∧ dot t d < 0 ∧ a = levF d u t ∧ 0 < gcdF (combF (dot t u) (dot t d) d u) := fun a ha => by
      rcases List.mem_append.mp ha with ha | ha
      · obtain ⟨h1, h2⟩ := List.mem_filter.mp ha
        exact .inl ⟨h1, of_decide_eq_true h2⟩
      · obtain ⟨i, hi, hr⟩ := List.mem_flatMap.mp ha
        obtain ⟨j, hj, rfl⟩ := List.mem_map.mp hr
        obtain ⟨hj1, hj2⟩ := List.mem_filter.mp hj
        unfold condF at hj2
        obtain ⟨c1, c2⟩ := Bool.and_eq_true_iff.mp hj2
        obtain ⟨c3, _⟩ := Bool.and_eq_true_iff.mp c2
        have q1 := of_decide_eq_true c1
        have q2 := of_decide_eq_true c3
        have i1 := List.mem_range.mp hi
        have j1 := List.mem_range.mp hj1
        exact .inr ⟨_, _, gD_mem i1, gD_mem j1, q1, q2, rfl, ok i j i1 j1 q1 q2⟩
    refine ⟨by rw [e1]; exact I.ll, ?_, ?_, ?_, by rw [e1]; exact I.p⟩
    · rw [e2]
      intro a ha
      rcases mem a ha with ⟨h1, _⟩ | ⟨u, d, hu, hd, _, _, rfl, _⟩
      · exact I.lf a h1
      · rw [lev_len, I.lf d hd]
    · rw [e1, e3]
      intro l hl c hc
      rcases List.mem_append.mp hc with hc | hc
      · exact I.z l hl c hc
      · rw [List.mem_singleton.mp hc]
        exact z0 l hl
    · rw [e2, e3]
      intro a ha
      rcases mem a ha with ⟨h1, h2⟩ | ⟨u, d, hu, hd, h1, h2, rfl, g0⟩
      · obtain ⟨f1, c, hc, f2⟩ := I.f a h1
        refine ⟨fun c hc => ?_, c, List.mem_append_left _ hc, f2⟩
        rcases List.mem_append.mp hc with hc | hc
        · exact f1 c hc
        · rw [List.mem_singleton.mp hc]
          exact h2
      · obtain ⟨p1, ⟨c, hc, p2⟩, p3⟩ := lev_pair (t := t) I hu hd h1 h2
        refine ⟨fun c hc => ?_, c, List.mem_append_left _ hc, (low_pos g0).1.mp p2⟩
        rcases List.mem_append.mp hc with hc | hc
        · exact (low_pos g0).2.2.mp (p1 c hc)
        · rw [List.mem_singleton.mp hc]
          exact (low_pos g0).2.2.mp (by omega)
  | cons a r =>
    rw [h] at ok
    obtain ⟨ha, h0⟩ := acr_mem h
    have la := I.ll a ha
    have up := up_pos h0
    have e1 : (s.next t).ls = lvlL s.ls a t := by show cutL s.ls t = _; unfold cutL; rw [h]
    have e2 : (s.next t).fs = lvlA s.fs a t := by show cutF s.ls s.fs s.ds t = _; unfold cutF; rw [h]
    have e3 : (s.next t).ds = s.ds ++ [t] := rfl
    have memL : ∀ l ∈ lvlL s.ls a t, ∃ k ∈ s.ls, k ≠ a ∧ l = levF k (upF a t) t := fun l hl => by
      obtain ⟨k, hk, rfl⟩ := List.mem_map.mp hl
      obtain ⟨k1, k2⟩ := List.mem_filter.mp hk
      refine ⟨k, k1, fun e => ?_, rfl⟩
      rw [decide_eq_true e] at k2
      cases k2
    have upz : ∀ c ∈ s.ds, dot c (upF a t) = 0 := fun c hc => by
      rcases dot_up (s := c) (a := a) (t := t) with e | e <;> rw [e, I.z a ha c hc]
      rfl
    have lvl0 : ∀ g : List Int, g.length = n → dot t (combF (dot t (upF a t)) (dot t g) g (upF a t)) = 0 := fun g hg => by
      rw [dot_comb (by rw [hg, up_len, la]), Int.mul_comm]
      omega
    refine ⟨?_, ?_, ?_, ?_, ?_⟩
    · rw [e1]
      intro l hl
      obtain ⟨k, hk, _, rfl⟩ := memL l hl
      rw [lev_len, I.ll k hk]
    · rw [e2]
      intro f hf
      rcases List.mem_append.mp hf with hf | hf
      · obtain ⟨g, hg, rfl⟩ := List.mem_map.mp hf
        rw [lev_len, I.lf g hg]
      · rw [List.mem_singleton.mp hf, up_len, la]
    · rw [e1, e3]
      intro l hl c hc
      obtain ⟨k, hk, hne, rfl⟩ := memL l hl
      refine (low_pos (ok.1 k hk hne)).2.1.mp ?_
      rcases List.mem_append.mp hc with hc | hc
      · rw [dot_comb (by rw [I.ll k hk, up_len, la]), I.z k hk c hc, upz c hc, Int.mul_zero, Int.mul_zero]
        rfl
      · rw [List.mem_singleton.mp hc]
        exact lvl0 k (I.ll k hk)
    · rw [e2, e3]
      intro f hf
      rcases List.mem_append.mp hf with hf | hf
      · obtain ⟨g, hg, rfl⟩ := List.mem_map.mp hf
        have g0 := ok.2 g hg
        have lv := lev_arrow (t := t) I ha hg
        obtain ⟨f1, c, hc, f2⟩ := I.f g hg
        refine ⟨fun c hc => ?_, c, List.mem_append_left _ hc, (low_pos g0).1.mp (by rw [lv c hc]; exact Int.mul_pos up f2)⟩
        refine (low_pos g0).2.2.mp ?_
        rcases List.mem_append.mp hc with hc | hc
        · rw [lv c hc]
          exact Int.mul_nonneg (by omega) (f1 c hc)
        · rw [List.mem_singleton.mp hc, lvl0 g (I.lf g hg)]
          omega
      · rw [List.mem_singleton.mp hf]
        refine ⟨fun c hc => ?_, t, List.mem_append_right _ (List.mem_singleton.mpr rfl), up⟩
        rcases List.mem_append.mp hc with hc | hc
        · rw [upz c hc]
          omega
        · rw [List.mem_singleton.mp hc]
          omega
    · rw [e1]
      intro l hl
      obtain ⟨k, hk, hne, rfl⟩ := memL l hl
      obtain ⟨i, hi, _, h1, h2⟩ := lev_line (t := t) I ha hk hne h0
      have gk := ok.1 k hk hne
      refine ⟨i, hi, fun e => h1 ((low_at gk (by rw [comb_len, I.ll k hk]; exact hi)).mp e), fun l2 hl2 hne2 => ?_⟩
      obtain ⟨k2, hk2, hnea, rfl⟩ := memL l2 hl2
      have gk2 := ok.1 k2 hk2 hnea
      exact (low_at gk2 (by rw [comb_len, I.ll k2 hk2]; exact hi)).mpr (h2 k2 hk2 (fun e => hne2 (by rw [e])) hnea)
end
end Dd
set_option Elab.async false
set_option linter.all false
set_option maxRecDepth 100000
set_option maxHeartbeats 8000000
set_option exponentiation.threshold 10000
namespace Dd
open Rl Pg
/-! ### how many arrows -/
theorem split_len {α : Type} (p : α → Bool) : ∀ L : List α, (L.filter p).length + (L.filter fun x => !p x).length = L.length
  | [] => rfl
  | x :: L => by
    have := split_len p L
    cases h : p x <;> simp [List.filter_cons, h] <;> omega
theorem nodup_bits : ∀ (m : Nat) (L : List (List Bool)), L.Nodup → (∀ x ∈ L, x.length = m) → L.length ≤ 2 ^ m
  | 0, L, h, hl => by
    match L, h, hl with
    | [], _, _ => simp
    | [x], _, _ => simp
    | x :: y :: r, h, hl =>
      have hx : x = [] := List.length_eq_zero_iff.mp (hl x (by simp))
      have hy : y = [] := List.length_eq_zero_iff.mp (hl y (by simp))
      exact absurd (List.rel_of_pairwise_cons h (List.mem_cons_self ..)) (by rw [hx, hy]; exact fun q => q rfl)
  | m + 1, L, h, hl => by
    have key : ∀ b : Bool, (L.filter fun x => x.headD false == b).length ≤ 2 ^ m := fun b => by
      have hn : ((L.filter fun x => x.headD false == b).map List.tail).Nodup := by
        refine List.pairwise_map.mpr ?_
        refine List.Pairwise.imp_of_mem (R := (· ≠ ·)) ?_ (List.Pairwise.filter _ h)
        intro x y hx hy hne he
        obtain ⟨x1, x2⟩ := List.mem_filter.mp hx
        obtain ⟨y1, y2⟩ := List.mem_filter.mp hy
        have lx := hl x x1
        have ly := hl y y1
        match x, y, lx, ly, x2, y2, he, hne with
        | a :: r, c :: u, _, _, x2, y2, he, hne =>
          have e1 : a = b := beq_iff_eq.mp x2
          have e2 : c = b := beq_iff_eq.mp y2
          have e3 : r = u := he
          exact hne (by rw [e1, e2, e3])
      have := nodup_bits m _ hn (fun x hx => by
        obtain ⟨y, hy, rfl⟩ := List.mem_map.mp hx
        rw [List.length_tail, hl y (List.mem_filter.mp hy).1]
        rfl)
      rwa [List.length_map] at this
    have e := split_len (fun x : List Bool => x.headD false == true) L
    have k1 := key true
    have k2 := key false
    have e2 : (L.filter fun x => !(x.headD false == true)) = L.filter fun x => x.headD false == false := by
      apply List.filter_congr
      intro x _
      cases x.headD false <;> rfl
    rw [e2] at e
    rw [Nat.pow_succ]
    omega
def prsF (fs ds : List (List Int)) (t : List Int) : List (Nat × Nat) := (List.range fs.length).flatMap fun i => (kept (condF fs ds t i) fs.length).map fun j => (i, j)
def maskF (fs ds : List (List Int)) (p : Nat × Nat) : List Bool := ds.map fun c => decide (dot c (fs.getD p.1 []) = 0) && decide (dot c (fs.getD p.2 []) = 0)
theorem new_prs (fs ds : List (List Int)) (t : List Int) : (newF fs ds t fs.length).length = (prsF fs ds t).length := by
  have : newF fs ds t fs.length = (prsF fs ds t).map fun p => levF (fs.getD p.2 []) (fs.getD p.1 []) t := by
    unfold newF prsF rowF
    rw [List.map_flatMap]
    congr 1
    funext i
    rw [List.map_map]
    rfl
  rw [this, List.length_map]
theorem kept_nodup (b : Nat → Bool) (n : Nat) : (kept b n).Nodup := List.Pairwise.filter _ List.nodup_range
theorem prs_mem {fs ds : List (List Int)} {t : List Int} {p : Nat × Nat} (h : p ∈ prsF fs ds t) : p.1 < fs.length ∧ p.2 < fs.length ∧ condF fs ds t p.1 p.2 = true := by
  obtain ⟨i, hi, h2⟩ := List.mem_flatMap.mp h
  obtain ⟨j, hj, rfl⟩ := List.mem_map.mp h2
  obtain ⟨h3, h4⟩ := List.mem_filter.mp hj
  exact ⟨List.mem_range.mp hi, List.mem_range.mp h3, h4⟩
theorem prs_nodup (fs ds : List (List Int)) (t : List Int) : (prsF fs ds t).Nodup := by
  unfold prsF
  refine List.pairwise_flatMap.mpr ⟨fun i _ => ?_, ?_⟩
  · refine List.pairwise_map.mpr (List.Pairwise.imp ?_ (kept_nodup _ _))
    intro a b hne e
    exact hne (Prod.mk.inj e).2
  · refine List.Pairwise.imp ?_ (List.nodup_range (n := fs.length))
    intro a b hne x hx y hy e
    obtain ⟨j, _, rfl⟩ := List.mem_map.mp hx
    obtain ⟨k, _, rfl⟩ := List.mem_map.mp hy
    exact hne (Prod.mk.inj e).1
theorem two_mem {K : List Nat} (hn : K.Nodup) (hl : K.length = 2) {i j k : Nat} (hi : i ∈ K) (hj : j ∈ K) (hne : i ≠ j) (hk : k ∈ K) : k = i ∨ k = j := by
  match K, hl, hn, hi, hj, hk with
  | [x, y], _, _, hi, hj, hk =>
    simp only [List.mem_cons, List.not_mem_nil, or_false] at hi hj hk
    omega
theorem cond_nb {fs ds : List (List Int)} {t : List Int} {i j : Nat} (h : condF fs ds t i j = true) : 0 < dot t (fs.getD i []) ∧ dot t (fs.getD j []) < 0 ∧ (betwF (commF (fs.getD i []) (fs.getD j []) ds) fs).length = 2 := by
  unfold condF at h
  obtain ⟨h1, h⟩ := Bool.and_eq_true_iff.mp h
  obtain ⟨h2, h3⟩ := Bool.and_eq_true_iff.mp h
  exact ⟨of_decide_eq_true h1, of_decide_eq_true h2, of_decide_eq_true h3⟩
theorem mask_inj {fs ds : List (List Int)} {t : List Int} {p q : Nat × Nat} (hp : p ∈ prsF fs ds t) (hq : q ∈ prsF fs ds t) (e : maskF fs ds p = maskF fs ds q) : p = q := by
  obtain ⟨p1, p2, pc⟩ := prs_mem hp
  obtain ⟨q1, q2, qc⟩ := prs_mem hq
  obtain ⟨ps, pn, pb⟩ := cond_nb pc
  obtain ⟨qs, qn, qb⟩ := cond_nb qc
  have ec : commF (fs.getD p.1 []) (fs.getD p.2 []) ds = commF (fs.getD q.1 []) (fs.getD q.2 []) ds := List.filter_congr (List.map_inj_left.mp e)
  have lieP : ∀ c ∈ commF (fs.getD p.1 []) (fs.getD p.2 []) ds, dot c (fs.getD p.1 []) = 0 ∧ dot c (fs.getD p.2 []) = 0 := fun c hc => by
    obtain ⟨z1, z2⟩ := Bool.and_eq_true_iff.mp (List.mem_filter.mp hc).2
    exact ⟨of_decide_eq_true z1, of_decide_eq_true z2⟩
  have lieQ : ∀ c ∈ commF (fs.getD p.1 []) (fs.getD p.2 []) ds, dot c (fs.getD q.1 []) = 0 ∧ dot c (fs.getD q.2 []) = 0 := fun c hc => by
    rw [ec] at hc
    obtain ⟨z1, z2⟩ := Bool.and_eq_true_iff.mp (List.mem_filter.mp hc).2
    exact ⟨of_decide_eq_true z1, of_decide_eq_true z2⟩
  have hK : (kept (fun k => (commF (fs.getD p.1 []) (fs.getD p.2 []) ds).all fun c => decide (dot c (fs.getD k []) = 0)) fs.length).length = 2 := by
    have := filter_kept [] (fun a => (commF (fs.getD p.1 []) (fs.getD p.2 []) ds).all fun c => decide (dot c a = 0)) fs
    have l2 := congrArg List.length this
    rw [List.length_map] at l2
    rw [l2]
    exact pb
  have inK : ∀ k, k < fs.length → (∀ c ∈ commF (fs.getD p.1 []) (fs.getD p.2 []) ds, dot c (fs.getD k []) = 0) → k ∈ kept (fun k => (commF (fs.getD p.1 []) (fs.getD p.2 []) ds).all fun c => decide (dot c (fs.getD k []) = 0)) fs.length := fun k hk hz => List.mem_filter.mpr ⟨List.mem_range.mpr hk, List.all_eq_true.mpr fun c hc => decide_eq_true (hz c hc)⟩
  have m1 := inK p.1 p1 fun c hc => (lieP c hc).1
  have m2 := inK p.2 p2 fun c hc => (lieP c hc).2
  have m3 := inK q.1 q1 fun c hc => (lieQ c hc).1
  have m4 := inK q.2 q2 fun c hc => (lieQ c hc).2
  have hne : p.1 ≠ p.2 := fun z => by
    rw [z] at ps
    omega
  have nd := kept_nodup (fun k => (commF (fs.getD p.1 []) (fs.getD p.2 []) ds).all fun c => decide (dot c (fs.getD k []) = 0)) fs.length
  have r1 : q.1 = p.1 := by
    rcases two_mem nd hK m1 m2 hne m3 with z | z
    · exact z
    · rw [z] at qs
      omega
  have r2 : q.2 = p.2 := by
    rcases two_mem nd hK m1 m2 hne m4 with z | z
    · rw [z] at qn
      omega
    · exact z
  exact Prod.ext r1.symm r2.symm
theorem new_few (fs ds : List (List Int)) (t : List Int) : (newF fs ds t fs.length).length ≤ 2 ^ ds.length := by
  rw [new_prs, ← List.length_map (as := prsF fs ds t) (f := maskF fs ds)]
  refine nodup_bits ds.length _ (List.pairwise_map.mpr ?_) fun x hx => ?_
  · refine List.Pairwise.imp_of_mem (R := (· ≠ ·)) ?_ (prs_nodup fs ds t)
    intro p q hp hq hne e
    exact hne (mask_inj hp hq e)
  · obtain ⟨p, _, rfl⟩ := List.mem_map.mp hx
    simp [maskF]
end Dd
set_option Elab.async false
set_option linter.all false
set_option maxRecDepth 100000
set_option maxHeartbeats 4000000
namespace Dd
open Rl Pg
/-! ### the arrows and lines make up all that keeps the tests: told by forms -/
/-- every form that is nought on the lines and never below on the arrows is not below at x -/
def Gen (n : Nat) (fs ls : List (List Int)) (x : List Int) : Prop := ∀ g : List Int, g.length = n → (∀ l ∈ ls, dot g l = 0) → (∀ f ∈ fs, 0 ≤ dot g f) → 0 ≤ dot g x
theorem dot_combL {hi va : Int} {a u x : List Int} (l : a.length = x.length) : dot (combF hi va a u) x = hi * dot a x - va * dot u x := by
  unfold dot
  rw [sum_lin x.length (fun i => (combF hi va a u).getD i 0 * x.getD i 0) (fun i => a.getD i 0 * x.getD i 0) (fun i => u.getD i 0 * x.getD i 0) hi (-va)]
  · rw [Int.neg_mul]; omega
  · intro i hi2
    rw [comb_getD (by omega), Int.sub_mul, Int.mul_assoc, Int.mul_assoc, Int.neg_mul]
    omega
/-- the sum of what the tests say -/
def sumD (Z : List (List Int)) (x : List Int) : Int := (Z.map fun s => dot s x).sum
theorem sumD_nil {x : List Int} : sumD [] x = 0 := rfl
theorem sumD_cons {s : List Int} {Z : List (List Int)} {x : List Int} : sumD (s :: Z) x = dot s x + sumD Z x := by simp [sumD]
/-- a form and M times the tests -/
def plusT (M : Int) (g : List Int) : List (List Int) → List Int
  | [] => g
  | s :: Z => combF 1 (-M) (plusT M g Z) s
theorem plus_len {M : Int} {g : List Int} : ∀ Z : List (List Int), (plusT M g Z).length = g.length
  | [] => rfl
  | s :: Z => by
    show (combF _ _ _ _).length = _
    rw [comb_len, plus_len Z]
theorem dot_plus {M : Int} {g x : List Int} (l : g.length = x.length) : ∀ Z : List (List Int), dot (plusT M g Z) x = dot g x + M * sumD Z x
  | [] => by
    show dot g x = _
    rw [sumD_nil]
    omega
  | s :: Z => by
    show dot (combF _ _ _ _) x = _
    rw [dot_combL (by rw [plus_len, l]), dot_plus l Z, sumD_cons, Int.one_mul, Int.mul_add, Int.neg_mul]
    omega
theorem sumD_zero {Z : List (List Int)} {x : List Int} (h : ∀ s ∈ Z, dot s x = 0) : sumD Z x = 0 := by
  induction Z with
  | nil => rfl
  | cons s Z ih =>
    rw [sumD_cons, h s (List.mem_cons_self ..), ih fun s hs => h s (List.mem_cons_of_mem _ hs)]
    rfl
theorem sumD_nn {Z : List (List Int)} {x : List Int} (h : ∀ s ∈ Z, 0 ≤ dot s x) : 0 ≤ sumD Z x := by
  induction Z with
  | nil => exact Int.le_refl _
  | cons s Z ih =>
    rw [sumD_cons]
    have h1 := h s (List.mem_cons_self ..)
    have h2 := ih fun s hs => h s (List.mem_cons_of_mem _ hs)
    omega
theorem sumD_pos {Z : List (List Int)} {x : List Int} (h : ∀ s ∈ Z, 0 ≤ dot s x) (k : ∃ s ∈ Z, dot s x ≠ 0) : 1 ≤ sumD Z x := by
  induction Z with
  | nil =>
    obtain ⟨s, hs, _⟩ := k
    cases hs
  | cons s Z ih =>
    rw [sumD_cons]
    have h1 := h s (List.mem_cons_self ..)
    have h2 := sumD_nn fun s hs => h s (List.mem_cons_of_mem _ hs)
    obtain ⟨c, hc, hp⟩ := k
    rcases List.mem_cons.mp hc with rfl | hc
    · omega
    · have := ih (fun s hs => h s (List.mem_cons_of_mem _ hs)) ⟨c, hc, hp⟩
      omega
/-- a number that is over all that the form says of the arrows -/
def overF (g : List Int) (fs : List (List Int)) : Int := (fs.map fun f => ((dot g f).natAbs : Int)).sum
theorem over_nn {g : List Int} : ∀ fs : List (List Int), 0 ≤ overF g fs
  | [] => Int.le_refl _
  | f :: fs => by
    have := over_nn (g := g) fs
    show 0 ≤ (List.map _ (f :: fs)).sum
    rw [List.map_cons, List.sum_cons]
    have e : overF g fs = (fs.map fun f => ((dot g f).natAbs : Int)).sum := rfl
    omega
theorem over_le {g f : List Int} {fs : List (List Int)} (h : f ∈ fs) : -overF g fs ≤ dot g f := by
  induction fs with
  | nil => cases h
  | cons a fs ih =>
    have e : overF g (a :: fs) = ((dot g a).natAbs : Int) + overF g fs := by simp [overF]
    have := over_nn (g := g) fs
    rcases List.mem_cons.mp h with rfl | h
    · omega
    · have := ih h
      omega
theorem plus_nn {n : Nat} {g : List Int} {Z fs : List (List Int)} (lg : g.length = n) (lf : Ln n fs) (hz : ∀ s ∈ Z, ∀ f ∈ fs, 0 ≤ dot s f) {f : List Int} (hf : f ∈ fs) (k : (∀ s ∈ Z, dot s f = 0) → 0 ≤ dot g f) : 0 ≤ dot (plusT (overF g fs) g Z) f := by
  rw [dot_plus (by rw [lg, lf f hf])]
  by_cases q : ∀ s ∈ Z, dot s f = 0
  · rw [sumD_zero q, Int.mul_zero]
    have := k q
    omega
  · have e : ∃ s ∈ Z, dot s f ≠ 0 := Classical.byContradiction fun r => q fun s hs => Classical.byContradiction fun p => r ⟨s, hs, p⟩
    have h1 := sumD_pos (fun s hs => hz s hs f hf) e
    have h2 := over_le (g := g) hf
    have h3 := Int.mul_le_mul_of_nonneg_left h1 (over_nn (g := g) fs)
    rw [Int.mul_one] at h3
    omega
theorem gen_face {n : Nat} {Z fs ls : List (List Int)} {x : List Int} (lx : x.length = n) (lf : Ln n fs) (ll : Ln n ls) (hz : ∀ s ∈ Z, ∀ f ∈ fs, 0 ≤ dot s f) (hl : ∀ s ∈ Z, ∀ l ∈ ls, dot s l = 0) (hx : ∀ s ∈ Z, dot s x = 0) (h : Gen n fs ls x)
    {g : List Int} (lg : g.length = n) (g0 : ∀ l ∈ ls, dot g l = 0) (g1 : ∀ f ∈ fs, (∀ s ∈ Z, dot s f = 0) → 0 ≤ dot g f) : 0 ≤ dot g x := by
  have := h (plusT (overF g fs) g Z) (by rw [plus_len, lg]) (fun l hl2 => by
    rw [dot_plus (by rw [lg, ll l hl2]), g0 l hl2, sumD_zero fun s hs => hl s hs l hl2]
    omega) fun f hf => plus_nn lg lf hz hf (g1 f hf)
  rw [dot_plus (by rw [lg, lx]), sumD_zero hx] at this
  omega
/-- where a test is above at x, some arrow of x's face is above -/
theorem face_some {n : Nat} {Z fs ls : List (List Int)} {x s0 : List Int} (lx : x.length = n) (lf : Ln n fs) (ll : Ln n ls) (hz : ∀ s ∈ Z, ∀ f ∈ fs, 0 ≤ dot s f) (hl : ∀ s ∈ Z, ∀ l ∈ ls, dot s l = 0) (hx : ∀ s ∈ Z, dot s x = 0) (h : Gen n fs ls x)
    (l0 : s0.length = n) (h0 : ∀ l ∈ ls, dot s0 l = 0) (hp : 0 < dot s0 x) : ∃ f ∈ fs, (∀ s ∈ Z, dot s f = 0) ∧ 0 < dot s0 f := by
  refine Classical.byContradiction fun q => ?_
  have dn : ∀ y : List Int, y.length = n → dot (combF (-1) 0 s0 s0) y = -dot s0 y := fun y ly => by
    rw [dot_combL (by rw [l0, ly])]
    omega
  have := gen_face lx lf ll hz hl hx h (g := combF (-1) 0 s0 s0) (by rw [comb_len, l0]) (fun l hl2 => by rw [dn l (ll l hl2), h0 l hl2]; rfl) fun f hf hfz => by
    rw [dn f (lf f hf)]
    have : ¬ 0 < dot s0 f := fun p => q ⟨f, hf, hfz, p⟩
    omega
  rw [dn x lx] at this
  omega
end Dd
set_option Elab.async false
set_option linter.all false
set_option maxRecDepth 100000
set_option maxHeartbeats 4000000
namespace Dd
open Rl Pg
/-! ### one cut keeps all -/
/-- y lies in the face of x -/
def LeZ (ds : List (List Int)) (x y : List Int) : Prop := ∀ s ∈ ds, dot s x = 0 → dot s y = 0
def cntZ (ds : List (List Int)) (x : List Int) : Nat := (ds.filter fun s => !decide (dot s x = 0)).length
theorem filt_le {α : Type} {p q : α → Bool} : ∀ {L : List α}, (∀ a ∈ L, p a = true → q a = true) → (L.filter p).length ≤ (L.filter q).length
  | [], _ => Nat.le_refl _
  | a :: L, h => by
    have ih := filt_le fun b hb => h b (List.mem_cons_of_mem _ hb)
    have ha := h a (List.mem_cons_self ..)
    rw [List.filter_cons, List.filter_cons]
    cases e : p a with
    | true =>
      rw [ha e]
      simp only [if_true, List.length_cons]
      omega
    | false =>
      cases q a with
      | true =>
        simp only [if_true, Bool.false_eq_true, if_false, List.length_cons]
        omega
      | false =>
        simp only [Bool.false_eq_true, if_false]
        exact ih
theorem filt_lt {α : Type} {p q : α → Bool} : ∀ {L : List α}, (∀ a ∈ L, p a = true → q a = true) → (∃ a ∈ L, p a = false ∧ q a = true) → (L.filter p).length < (L.filter q).length
  | [], _, ⟨a, ha, _⟩ => by cases ha
  | a :: L, h, ⟨b, hb, h1, h2⟩ => by
    have le := filt_le fun b hb => h b (List.mem_cons_of_mem _ hb)
    have ha := h a (List.mem_cons_self ..)
    rw [List.filter_cons, List.filter_cons]
    rcases List.mem_cons.mp hb with rfl | hb
    · rw [h1, h2]
      simp only [if_true, Bool.false_eq_true, if_false, List.length_cons]
      omega
    · have ih := filt_lt (fun b hb => h b (List.mem_cons_of_mem _ hb)) ⟨b, hb, h1, h2⟩
      cases e : p a with
      | true =>
        rw [ha e]
        simp only [if_true, List.length_cons]
        omega
      | false =>
        cases q a with
        | true =>
          simp only [if_true, Bool.false_eq_true, if_false, List.length_cons]
          omega
        | false =>
          simp only [Bool.false_eq_true, if_false]
          exact ih
theorem nz {z : Int} : (!decide (z = 0)) = true ↔ z ≠ 0 := by
  by_cases h : z = 0
  · rw [decide_eq_true h]
    exact ⟨(fun e => nomatch e), fun e => absurd h e⟩
  · rw [decide_eq_false h]
    exact ⟨fun _ => h, fun _ => rfl⟩
theorem cnt_le {ds : List (List Int)} {x y : List Int} (h : LeZ ds x y) : cntZ ds y ≤ cntZ ds x := filt_le fun s hs e => nz.mpr fun q => nz.mp e (h s hs q)
theorem cnt_lt {ds : List (List Int)} {x y : List Int} (h : LeZ ds x y) (k : ∃ s ∈ ds, dot s x ≠ 0 ∧ dot s y = 0) : cntZ ds y < cntZ ds x := by
  obtain ⟨s, hs, h1, h2⟩ := k
  exact filt_lt (fun s hs e => nz.mpr fun q => nz.mp e (h s hs q)) ⟨s, hs, by rw [decide_eq_true h2]; rfl, nz.mpr h1⟩
theorem ratio {a b c d e f : Int} (hb : 0 < b) (hd : 0 < d) (hf : 0 < f) (h1 : a * d ≤ c * b) (h2 : c * f ≤ e * d) : a * f ≤ e * b := by
  have h3 := Int.mul_le_mul_of_nonneg_right h1 (Int.le_of_lt hf)
  have h4 := Int.mul_le_mul_of_nonneg_right h2 (Int.le_of_lt hb)
  have e1 : a * d * f = a * f * d := by rw [Int.mul_assoc, Int.mul_comm d f, ← Int.mul_assoc]
  have e2 : c * b * f = c * f * b := by rw [Int.mul_assoc, Int.mul_comm b f, ← Int.mul_assoc]
  have e3 : e * d * b = e * b * d := by rw [Int.mul_assoc, Int.mul_comm d b, ← Int.mul_assoc]
  have h5 : a * f * d ≤ e * b * d := by omega
  exact Int.le_of_mul_le_mul_right h5 hd
/-- the least ratio -/
theorem least_ratio (X Z : List Int → Int) : ∀ {L : List (List Int)}, (∃ s ∈ L, 0 < Z s) → ∃ s ∈ L, 0 < Z s ∧ ∀ c ∈ L, 0 < Z c → X s * Z c ≤ X c * Z s
  | [], ⟨s, hs, _⟩ => by cases hs
  | a :: L, ⟨s, hs, h⟩ => by
    by_cases r : ∃ s ∈ L, 0 < Z s
    · obtain ⟨m, hm, m0, mm⟩ := least_ratio X Z r
      by_cases ha : 0 < Z a
      · rcases Int.le_total (X a * Z m) (X m * Z a) with q | q
        · refine ⟨a, List.mem_cons_self .., ha, fun c hc c0 => ?_⟩
          rcases List.mem_cons.mp hc with rfl | hc
          · exact Int.le_refl _
          · exact ratio ha m0 c0 q (mm c hc c0)
        · refine ⟨m, List.mem_cons_of_mem _ hm, m0, fun c hc c0 => ?_⟩
          rcases List.mem_cons.mp hc with rfl | hc
          · exact q
          · exact mm c hc c0
      · refine ⟨m, List.mem_cons_of_mem _ hm, m0, fun c hc c0 => ?_⟩
        rcases List.mem_cons.mp hc with rfl | hc
        · exact absurd c0 ha
        · exact mm c hc c0
    · rcases List.mem_cons.mp hs with rfl | hs
      · refine ⟨s, List.mem_cons_self .., h, fun c hc c0 => ?_⟩
        rcases List.mem_cons.mp hc with rfl | hc
        · exact Int.le_refl _
        · exact absurd ⟨c, hc, c0⟩ r
      · exact absurd ⟨s, hs, h⟩ r
/-- as much of z as can be is taken from x -/
theorem take_off {n : Nat} {ds : List (List Int)} {x z : List Int} (lx : x.length = n) (lz : z.length = n) (hx : ∀ s ∈ ds, 0 ≤ dot s x) (hz : ∀ s ∈ ds, 0 ≤ dot s z) (hs : ∃ s ∈ ds, 0 < dot s z) (le : LeZ ds x z) :
    ∃ p q : Int, 0 < p ∧ 0 < q ∧ (∀ s ∈ ds, 0 ≤ dot s (combF p q x z)) ∧ LeZ ds x (combF p q x z) ∧ cntZ ds (combF p q x z) < cntZ ds x := by
  obtain ⟨m, hm, m0, mm⟩ := least_ratio (fun s => dot s x) (fun s => dot s z) hs
  have mx : dot m x ≠ 0 := fun e => by
    have := le m hm e
    omega
  have mp : 0 < dot m x := by
    have := hx m hm
    omega
  have dc : ∀ s, dot s (combF (dot m z) (dot m x) x z) = dot m z * dot s x - dot m x * dot s z := fun s => dot_comb (by rw [lx, lz])
  have lz2 : LeZ ds x (combF (dot m z) (dot m x) x z) := fun s hs e => by
    rw [dc, e, le s hs e, Int.mul_zero, Int.mul_zero]
    rfl
  refine ⟨dot m z, dot m x, m0, mp, fun s hs => ?_, lz2, cnt_lt lz2 ⟨m, hm, mx, ?_⟩⟩
  · rw [dc]
    by_cases q : 0 < dot s z
    · have := mm s hs q
      rw [Int.mul_comm (dot s x)] at this
      omega
    · have e : dot s z = 0 := by
        have := hz s hs
        omega
      rw [e, Int.mul_zero, Int.sub_zero]
      exact Int.mul_nonneg (by omega) (hx s hs)
  · rw [dc, Int.mul_comm]
    omega
end Dd
set_option Elab.async false
set_option linter.all false
set_option maxRecDepth 100000
set_option maxHeartbeats 4000000
namespace Dd
open Rl Pg
theorem third_of {K : List Nat} (hn : K.Nodup) {i j : Nat} (hi : i ∈ K) (hj : j ∈ K) (hne : i ≠ j) (hl : K.length ≠ 2) : ∃ k ∈ K, k ≠ i ∧ k ≠ j := by
  match K, hl, hn, hi, hj with
  | [], _, _, hi, _ => cases hi
  | [x], _, _, hi, hj =>
    rw [List.mem_singleton.mp hi, List.mem_singleton.mp hj] at hne
    exact absurd rfl hne
  | [x, y], hl, _, _, _ => exact absurd rfl hl
  | x :: y :: z :: r, _, hn, _, _ =>
    obtain ⟨h1, hn⟩ := List.nodup_cons.mp hn
    obtain ⟨h2, _⟩ := List.nodup_cons.mp hn
    have xy : x ≠ y := fun e => h1 (by rw [e]; exact List.mem_cons_self ..)
    have xz : x ≠ z := fun e => h1 (by rw [e]; exact List.mem_cons_of_mem _ (List.mem_cons_self ..))
    have yz : y ≠ z := fun e => h2 (by rw [e]; exact List.mem_cons_self ..)
    by_cases a : x ≠ i ∧ x ≠ j
    · exact ⟨x, List.mem_cons_self .., a⟩
    · by_cases b : y ≠ i ∧ y ≠ j
      · exact ⟨y, List.mem_cons_of_mem _ (List.mem_cons_self ..), b⟩
      · exact ⟨z, List.mem_cons_of_mem _ (List.mem_cons_of_mem _ (List.mem_cons_self ..)), by omega, by omega⟩
/-- no arrow lies in the face of another -/
def AC (fs ds : List (List Int)) : Prop := ∀ i j, i < fs.length → j < fs.length → LeZ ds (fs.getD i []) (fs.getD j []) → i = j
/-- the common tests of two arrows -/
def LeZ2 (ds : List (List Int)) (x y z : List Int) : Prop := ∀ s ∈ ds, dot s x = 0 → dot s y = 0 → dot s z = 0
theorem comm_iff {ds : List (List Int)} {x y z : List Int} : (∀ s ∈ commF x y ds, dot s z = 0) ↔ LeZ2 ds x y z := by
  constructor
  · intro h s hs h1 h2
    exact h s (List.mem_filter.mpr ⟨hs, by rw [decide_eq_true h1, decide_eq_true h2]; rfl⟩)
  · intro h s hs
    obtain ⟨h1, h2⟩ := List.mem_filter.mp hs
    obtain ⟨h3, h4⟩ := Bool.and_eq_true_iff.mp h2
    exact h s h1 (of_decide_eq_true h3) (of_decide_eq_true h4)
theorem nb_third {fs ds : List (List Int)} {i j : Nat} (hi : i < fs.length) (hj : j < fs.length) (hne : i ≠ j) (h : nbF (fs.getD i []) (fs.getD j []) fs ds = false) : ∃ k, k < fs.length ∧ k ≠ i ∧ k ≠ j ∧ LeZ2 ds (fs.getD i []) (fs.getD j []) (fs.getD k []) := by
  have hl : (betwF (commF (fs.getD i []) (fs.getD j []) ds) fs).length ≠ 2 := of_decide_eq_false h
  have hK := congrArg List.length (filter_kept [] (fun a => (commF (fs.getD i []) (fs.getD j []) ds).all fun c => decide (dot c a = 0)) fs)
  rw [List.length_map] at hK
  have inK : ∀ k, k < fs.length → LeZ2 ds (fs.getD i []) (fs.getD j []) (fs.getD k []) → k ∈ kept (fun k => (commF (fs.getD i []) (fs.getD j []) ds).all fun c => decide (dot c (fs.getD k []) = 0)) fs.length := fun k hk hz => List.mem_filter.mpr ⟨List.mem_range.mpr hk, List.all_eq_true.mpr fun c hc => decide_eq_true (comm_iff.mpr hz c hc)⟩
  obtain ⟨k, hk, h1, h2⟩ := third_of (kept_nodup _ fs.length) (inK i hi fun s _ a _ => a) (inK j hj fun s _ _ b => b) hne (by rw [hK]; exact hl)
  obtain ⟨h3, h4⟩ := List.mem_filter.mp hk
  exact ⟨k, List.mem_range.mp h3, h1, h2, comm_iff.mp fun s hs => of_decide_eq_true (List.all_eq_true.mp h4 s hs)⟩
theorem nb_two {fs ds : List (List Int)} {i j : Nat} (hi : i < fs.length) (hj : j < fs.length) (hne : i ≠ j) (h : nbF (fs.getD i []) (fs.getD j []) fs ds = true) {k : Nat} (hk : k < fs.length) (hz : LeZ2 ds (fs.getD i []) (fs.getD j []) (fs.getD k [])) : k = i ∨ k = j := by
  have hl : (betwF (commF (fs.getD i []) (fs.getD j []) ds) fs).length = 2 := of_decide_eq_true h
  have hK := congrArg List.length (filter_kept [] (fun a => (commF (fs.getD i []) (fs.getD j []) ds).all fun c => decide (dot c a = 0)) fs)
  rw [List.length_map] at hK
  have inK : ∀ k, k < fs.length → LeZ2 ds (fs.getD i []) (fs.getD j []) (fs.getD k []) → k ∈ kept (fun k => (commF (fs.getD i []) (fs.getD j []) ds).all fun c => decide (dot c (fs.getD k []) = 0)) fs.length := fun k hk hz => List.mem_filter.mpr ⟨List.mem_range.mpr hk, List.all_eq_true.mpr fun c hc => decide_eq_true (comm_iff.mpr hz c hc)⟩
  exact two_mem (kept_nodup _ fs.length) (by rw [hK]; exact hl) (inK i hi fun s _ a _ => a) (inK j hj fun s _ _ b => b) hne (inK k hk hz)
/-- two not negative sums that are one another's multiple: the arrow is in one of the faces -/
theorem in_face {ds : List (List Int)} {u d f : List Int} {a b c e : Int} (ha : 0 < a) (hc : 0 < c) (hu : ∀ s ∈ ds, 0 ≤ dot s u) (hd : ∀ s ∈ ds, 0 ≤ dot s d) (hf : ∀ s ∈ ds, 0 ≤ dot s f)
    (h : ∀ s ∈ ds, a * dot s u + b * dot s d = c * dot s f + e * dot s d) : LeZ ds f u ∨ LeZ ds u f := by
  rcases Int.le_total e b with q | q
  · refine .inl fun s hs h0 => ?_
    have h1 := h s hs
    rw [h0, Int.mul_zero] at h1
    have h2 := Int.mul_le_mul_of_nonneg_right q (hd s hs)
    have h3 : a * dot s u ≤ 0 := by omega
    have h4 := Int.mul_nonneg (Int.le_of_lt ha) (hu s hs)
    exact (Int.mul_eq_zero.mp (by omega : a * dot s u = 0)).resolve_left (by omega)
  · refine .inr fun s hs h0 => ?_
    have h1 := h s hs
    rw [h0, Int.mul_zero] at h1
    have h2 := Int.mul_le_mul_of_nonneg_right q (hd s hs)
    have h3 : c * dot s f ≤ 0 := by omega
    have h4 := Int.mul_nonneg (Int.le_of_lt hc) (hf s hs)
    exact (Int.mul_eq_zero.mp (by omega : c * dot s f = 0)).resolve_left (by omega)
theorem gD_ex {gs : List (List Int)} {g : List Int} (h : g ∈ gs) : ∃ i, i < gs.length ∧ gs.getD i [] = g := by
  obtain ⟨i, hi, e⟩ := List.mem_iff_getElem.mp h
  exact ⟨i, hi, by rw [List.getD_eq_getElem?_getD, List.getElem?_eq_getElem hi]; exact e⟩
theorem left_mem {fs ds : List (List Int)} {t f : List Int} (hf : f ∈ fs) (h : 0 ≤ dot t f) : f ∈ cutA fs ds t := List.mem_append_left _ (List.mem_filter.mpr ⟨hf, decide_eq_true h⟩)
theorem pair_mem {fs ds : List (List Int)} {t : List Int} {i j : Nat} (hi : i < fs.length) (hj : j < fs.length) (h1 : 0 < dot t (fs.getD i [])) (h2 : dot t (fs.getD j []) < 0) (h3 : nbF (fs.getD i []) (fs.getD j []) fs ds = true) : levF (fs.getD j []) (fs.getD i []) t ∈ cutA fs ds t :=
  List.mem_append_right _ (List.mem_flatMap.mpr ⟨i, List.mem_range.mpr hi, List.mem_map.mpr ⟨j, List.mem_filter.mpr ⟨List.mem_range.mpr hj, by unfold condF; rw [decide_eq_true h1, decide_eq_true h2, h3]; rfl⟩, rfl⟩⟩)
end Dd
set_option Elab.async false
set_option linter.all false
set_option maxRecDepth 100000
set_option maxHeartbeats 4000000
namespace Dd
open Rl Pg
section
variable {n : Nat} {s : St} {t : List Int}
/-- all that keeps the tests is made up -/
def Comp (n : Nat) (s : St) : Prop := ∀ x : List Int, x.length = n → (∀ c ∈ s.ds, 0 ≤ dot c x) → Gen n s.fs s.ls x
theorem lez_trans {ds : List (List Int)} {x y z : List Int} (a : LeZ ds x y) (b : LeZ ds y z) : LeZ ds x z := fun c hc h => b c hc (a c hc h)
theorem arrows_keep (I : Inv n s) (lt : t.length = n) (ld : Ln n s.ds) (h : acrF s.ls t = []) (A : AC s.fs s.ds) (C : Comp n s) :
    ∀ (m : Nat) (x : List Int), cntZ s.ds x < m → x.length = n → (∀ c ∈ s.ds, 0 ≤ dot c x) → 0 ≤ dot t x → Gen n (cutA s.fs s.ds t) s.ls x := by
  have I' := inv_next I lt
  have e1 : (s.next t).ls = s.ls := by show cutL s.ls t = _; unfold cutL; rw [h]
  have e2 : (s.next t).fs = cutA s.fs s.ds t := by show cutF s.ls s.fs s.ds t = _; unfold cutF; rw [h]
  have e3 : (s.next t).ds = s.ds ++ [t] := rfl
  have t0 := acr_nil h
  have nl : Ln n (cutA s.fs s.ds t) := by rw [← e2]; exact I'.lf
  have nf : ∀ a ∈ cutA s.fs s.ds t, (∀ c ∈ s.ds ++ [t], 0 ≤ dot c a) ∧ ∃ c ∈ s.ds ++ [t], 0 < dot c a := by rw [← e2, ← e3]; exact I'.f
  have ncz : ∀ a ∈ cutA s.fs s.ds t, ∀ c ∈ s.ds, 0 ≤ dot c a := fun a ha c hc => (nf a ha).1 c (List.mem_append_left _ hc)
  have ncs : ∀ a ∈ cutA s.fs s.ds t, dot t a = 0 → ∃ c ∈ s.ds, 0 < dot c a := fun a ha h0 => by
    obtain ⟨c, hc, hp⟩ := (nf a ha).2
    rcases List.mem_append.mp hc with hc | hc
    · exact ⟨c, hc, hp⟩
    · rw [List.mem_singleton.mp hc] at hp
      omega
  have pl : ∀ {u d : List Int}, u ∈ s.fs → d ∈ s.fs → d.length = u.length := fun hu hd => by rw [I.lf _ hd, I.lf _ hu]
  intro m
  induction m with
  | zero =>
    intro x hm
    omega
  | succ m ih =>
    intro x hm lx hx tx
    have sub : ∀ g ∈ cutA s.fs s.ds t, dot t g = 0 → LeZ s.ds x g → Gen n (cutA s.fs s.ds t) s.ls x := fun g hg g0 le => by
      obtain ⟨p, q, p0, q0, h1, h2, h3⟩ := take_off lx (nl g hg) hx (ncz g hg) (ncs g hg g0) le
      have gy := ih (combF p q x g) (by omega) (by rw [comb_len, lx]) h1 (by
        rw [dot_comb (by rw [lx, nl g hg]), g0, Int.mul_zero, Int.sub_zero]
        exact Int.mul_nonneg (by omega) tx)
      intro k lk k0 k1
      have y := gy k lk k0 k1
      rw [dot_comb (by rw [lx, nl g hg])] at y
      have z := Int.mul_nonneg (Int.le_of_lt q0) (k1 g hg)
      rcases Int.lt_or_le (dot k x) 0 with r | r
      · have := Int.mul_neg_of_pos_of_neg p0 r
        omega
      · exact r
    have low : ∀ w : List Int, w.length = n → (∀ c ∈ s.ds, 0 ≤ dot c w) → dot t w = 0 → LeZ s.ds x w → cntZ s.ds w < cntZ s.ds x → (∃ c ∈ s.ds, 0 < dot c w) → Gen n (cutA s.fs s.ds t) s.ls x := fun w lw hw w0 le l2 ⟨c, hc, cp⟩ => by
      have gw := ih w (by omega) lw hw (by omega)
      obtain ⟨f, hf, fz, fp⟩ := face_some (Z := t :: s.ds.filter (fun c => decide (dot c w = 0))) lw nl I.ll (fun c hc f hf => by
          rcases List.mem_cons.mp hc with rfl | hc
          · exact (nf f hf).1 _ (List.mem_append_right _ (List.mem_singleton.mpr rfl))
          · exact ncz f hf c (List.mem_filter.mp hc).1) (fun c hc l hl => by
          rcases List.mem_cons.mp hc with rfl | hc
          · exact t0 l hl
          · exact I.z l hl c (List.mem_filter.mp hc).1) (fun c hc => by
          rcases List.mem_cons.mp hc with rfl | hc
          · exact w0
          · exact of_decide_eq_true (List.mem_filter.mp hc).2) gw (ld c hc) (fun l hl => I.z l hl c hc) cp
      exact sub f hf (fz t (List.mem_cons_self ..)) (lez_trans le fun c hc h0 => fz c (List.mem_cons_of_mem _ (List.mem_filter.mpr ⟨hc, decide_eq_true h0⟩)))
    have gx := C x lx hx
    have zf : ∀ c ∈ s.ds.filter (fun c => decide (dot c x = 0)), ∀ f ∈ s.fs, 0 ≤ dot c f := fun c hc f hf => (I.f f hf).1 c (List.mem_filter.mp hc).1
    have zl : ∀ c ∈ s.ds.filter (fun c => decide (dot c x = 0)), ∀ l ∈ s.ls, dot c l = 0 := fun c hc l hl => I.z l hl c (List.mem_filter.mp hc).1
    have zx : ∀ c ∈ s.ds.filter (fun c => decide (dot c x = 0)), dot c x = 0 := fun c hc => of_decide_eq_true (List.mem_filter.mp hc).2
    have toLe : ∀ {f : List Int}, (∀ c ∈ s.ds.filter (fun c => decide (dot c x = 0)), dot c f = 0) → LeZ s.ds x f := fun fz c hc h0 => fz c (List.mem_filter.mpr ⟨hc, decide_eq_true h0⟩)
    by_cases cA : ∀ f ∈ s.fs, LeZ s.ds x f → 0 ≤ dot t f
    · intro k lk k0 k1
      exact gen_face lx I.lf I.ll zf zl zx gx lk k0 fun f hf fz => k1 f (left_mem hf (cA f hf (toLe fz)))
    · by_cases cB : ∀ f ∈ s.fs, LeZ s.ds x f → dot t f ≤ 0
      · intro k lk k0 k1
        have dg : ∀ y : List Int, y.length = n → dot (combF 1 (overF k s.fs) k t) y = dot k y - overF k s.fs * dot t y := fun y ly => by
          rw [dot_combL (by rw [lk, ly]), Int.one_mul]
        have K0 := over_nn (g := k) s.fs
        have r := gen_face lx I.lf I.ll zf zl zx gx (g := combF 1 (overF k s.fs) k t) (by rw [comb_len, lk]) (fun l hl => by
          rw [dg l (I.ll l hl), k0 l hl, t0 l hl, Int.mul_zero]
          rfl) fun f hf fz => by
          rw [dg f (I.lf f hf)]
          have b := cB f hf (toLe fz)
          rcases Int.lt_or_eq_of_le b with q | q
          · have h1 := over_le (g := k) hf
            have h2 := Int.mul_le_mul_of_nonneg_left (show dot t f ≤ -1 by omega) K0
            rw [Int.mul_neg, Int.mul_one] at h2
            omega
          · rw [q, Int.mul_zero, Int.sub_zero]
            exact k1 f (left_mem hf (by omega))
        rw [dg x lx] at r
        have := Int.mul_nonneg K0 tx
        omega
      · have eA : ∃ d ∈ s.fs, LeZ s.ds x d ∧ dot t d < 0 := Classical.byContradiction fun q => cA fun f hf le => Classical.byContradiction fun r => q ⟨f, hf, le, by omega⟩
        have eB : ∃ u ∈ s.fs, LeZ s.ds x u ∧ 0 < dot t u := Classical.byContradiction fun q => cB fun f hf le => Classical.byContradiction fun r => q ⟨f, hf, le, by omega⟩
        obtain ⟨d, hd, ld2, td⟩ := eA
        obtain ⟨u, hu, lu2, tu⟩ := eB
        obtain ⟨i, hi, eu⟩ := gD_ex hu
        obtain ⟨j, hj, ed⟩ := gD_ex hd
        have hne : i ≠ j := fun e => by
          rw [← eu, e, ed] at tu
          omega
        have dz : ∀ (c u d : List Int), u ∈ s.fs → d ∈ s.fs → dot c (combF (dot t u) (dot t d) d u) = dot t u * dot c d - dot t d * dot c u := fun c u d hu hd => dot_comb (pl hu hd)
        obtain ⟨z1, z2, z3⟩ := lev_pair (t := t) I hu hd tu td
        have zle : LeZ s.ds x (combF (dot t u) (dot t d) d u) := fun c hc h0 => by
          rw [dz c u d hu hd, ld2 c hc h0, lu2 c hc h0, Int.mul_zero, Int.mul_zero]
          rfl
        have zlen : (combF (dot t u) (dot t d) d u).length = n := by rw [comb_len, I.lf d hd]
        have zpos : ∀ {u d : List Int}, u ∈ s.fs → d ∈ s.fs → 0 < dot t u → dot t d < 0 → ∀ c ∈ s.ds, dot c (combF (dot t u) (dot t d) d u) = 0 → dot c u = 0 ∧ dot c d = 0 := fun {u d} hu hd tu td c hc h0 => by
          rw [dz c u d hu hd] at h0
          have a1 := Int.mul_nonneg (Int.le_of_lt tu) ((I.f d hd).1 c hc)
          have a2 := Int.mul_nonneg (show 0 ≤ -dot t d by omega) ((I.f u hu).1 c hc)
          rw [Int.neg_mul] at a2
          exact ⟨(Int.mul_eq_zero.mp (show dot t d * dot c u = 0 by omega)).resolve_left (by omega), (Int.mul_eq_zero.mp (show dot t u * dot c d = 0 by omega)).resolve_left (by omega)⟩
        cases hnb : nbF (s.fs.getD i []) (s.fs.getD j []) s.fs s.ds with
        | true =>
          have hm2 := pair_mem hi hj (by rw [eu]; exact tu) (by rw [ed]; exact td) hnb
          rw [eu, ed] at hm2
          have g0 : 0 < gcdF (combF (dot t u) (dot t d) d u) := by
            obtain ⟨c, hc, hp⟩ := z2
            exact gcd_of_dot (t := c) (by omega)
          exact sub _ hm2 ((low_pos g0).2.1.mp z3) (lez_trans zle fun c hc h0 => (low_pos g0).2.1.mp h0)
        | false =>
          obtain ⟨k, hk, ki, kj, kz⟩ := nb_third hi hj hne hnb
          rw [eu, ed] at kz
          have hf : s.fs.getD k [] ∈ s.fs := gD_mem hk
          have lf2 : LeZ s.ds x (s.fs.getD k []) := fun c hc h0 => kz c hc (lu2 c hc h0) (ld2 c hc h0)
          have AC1 : ∀ {i : Nat}, i < s.fs.length → k ≠ i → ¬ (LeZ s.ds (s.fs.getD k []) (s.fs.getD i []) ∨ LeZ s.ds (s.fs.getD i []) (s.fs.getD k [])) := fun {i} hi ne r => by
            rcases r with r | r
            · exact ne (A _ _ hk hi r)
            · exact ne (A _ _ hi hk r).symm
          have fin : ∀ z : List Int, z.length = n → (∀ c ∈ s.ds, 0 ≤ dot c z) → (∃ c ∈ s.ds, 0 < dot c z) → dot t z = 0 → LeZ s.ds (combF (dot t u) (dot t d) d u) z → (∀ p q : Int, 0 < p → 0 < q → (∀ c ∈ s.ds, p * dot c (combF (dot t u) (dot t d) d u) = q * dot c z) → False) → Gen n (cutA s.fs s.ds t) s.ls x := fun z lz hz hs zt le no => by
            obtain ⟨p, q, p0, q0, h1, h2, h3⟩ := take_off zlen lz z1 hz hs le
            have de : ∀ c, dot c (combF p q (combF (dot t u) (dot t d) d u) z) = p * dot c (combF (dot t u) (dot t d) d u) - q * dot c z := fun c => dot_comb (by rw [zlen, lz])
            refine low (combF p q (combF (dot t u) (dot t d) d u) z) (by rw [comb_len, zlen]) h1 (by rw [de, z3, zt, Int.mul_zero, Int.mul_zero]; rfl) (lez_trans zle h2) (Nat.lt_of_lt_of_le h3 (cnt_le zle)) (Classical.byContradiction fun r => no p q p0 q0 fun c hc => ?_)
            have a1 := h1 c hc
            have a2 : ¬ 0 < dot c (combF p q (combF (dot t u) (dot t d) d u) z) := fun r2 => r ⟨c, hc, r2⟩
            have a3 := de c
            omega
          rcases Int.lt_trichotomy (dot t (s.fs.getD k [])) 0 with tf | tf | tf
          · obtain ⟨y1, y2, y3⟩ := lev_pair (t := t) I hu hf tu tf
            refine fin (combF (dot t u) (dot t (s.fs.getD k [])) (s.fs.getD k []) u) (by rw [comb_len, I.lf _ hf]) y1 y2 y3 (fun c hc h0 => ?_) fun p q p0 q0 e => ?_
            · obtain ⟨a1, a2⟩ := zpos hu hd tu td c hc h0
              rw [dz c u _ hu hf, a1, kz c hc a1 a2, Int.mul_zero, Int.mul_zero]
              rfl
            · refine AC1 hj kj ?_
              rw [ed]
              refine in_face (a := p * dot t u) (b := -(p * dot t d)) (c := q * dot t u) (e := -(q * dot t (s.fs.getD k []))) (Int.mul_pos p0 tu) (Int.mul_pos q0 tu) (I.f d hd).1 (I.f u hu).1 (I.f _ hf).1 fun c hc => ?_
              have := e c hc
              rw [dz c u d hu hd, dz c u _ hu hf, Int.mul_sub, Int.mul_sub, ← Int.mul_assoc, ← Int.mul_assoc, ← Int.mul_assoc, ← Int.mul_assoc] at this
              rw [Int.neg_mul, Int.neg_mul]
              omega
          · exact sub _ (left_mem hf (by omega)) tf lf2
          · obtain ⟨y1, y2, y3⟩ := lev_pair (t := t) I hf hd tf td
            refine fin (combF (dot t (s.fs.getD k [])) (dot t d) d (s.fs.getD k [])) (by rw [comb_len, I.lf _ hd]) y1 y2 y3 (fun c hc h0 => ?_) fun p q p0 q0 e => ?_
            · obtain ⟨a1, a2⟩ := zpos hu hd tu td c hc h0
              rw [dz c _ d hf hd, a2, kz c hc a1 a2, Int.mul_zero, Int.mul_zero]
              rfl
            · refine AC1 hi ki ?_
              rw [eu]
              refine in_face (a := p * -dot t d) (b := p * dot t u) (c := q * -dot t d) (e := q * dot t (s.fs.getD k [])) (Int.mul_pos p0 (by omega)) (Int.mul_pos q0 (by omega)) (I.f u hu).1 (I.f d hd).1 (I.f _ hf).1 fun c hc => ?_
              have := e c hc
              rw [dz c u d hu hd, dz c _ d hf hd, Int.mul_sub, Int.mul_sub, ← Int.mul_assoc, ← Int.mul_assoc, ← Int.mul_assoc, ← Int.mul_assoc] at this
              rw [Int.mul_neg, Int.mul_neg, Int.neg_mul, Int.neg_mul]
              omega
end
end Dd
set_option Elab.async false
set_option linter.all false
set_option maxRecDepth 100000
set_option maxHeartbeats 4000000
namespace Dd
open Rl Pg
def Rz (ds : List (List Int)) (f g : List Int) : Prop := ¬ LeZ ds f g ∧ ¬ LeZ ds g f
theorem gD_eq {gs : List (List Int)} {i : Nat} (h : i < gs.length) : gs.getD i [] = gs[i] := by
  rw [List.getD_eq_getElem?_getD, List.getElem?_eq_getElem h]
  rfl
theorem ac_pw {fs ds : List (List Int)} : AC fs ds ↔ fs.Pairwise (Rz ds) := by
  rw [List.pairwise_iff_getElem]
  constructor
  · intro A i j hi hj hij
    refine ⟨fun h => ?_, fun h => ?_⟩
    · have := A i j hi hj (by rw [gD_eq hi, gD_eq hj]; exact h)
      omega
    · have := A j i hj hi (by rw [gD_eq hi, gD_eq hj]; exact h)
      omega
  · intro P i j hi hj h
    rw [gD_eq hi, gD_eq hj] at h
    rcases Nat.lt_trichotomy i j with q | q | q
    · exact absurd h (P i j hi hj q).1
    · exact q
    · exact absurd h (P j i hj hi q).2
theorem lez_app {ds : List (List Int)} {t f g : List Int} (h : LeZ (ds ++ [t]) f g) : LeZ ds f g := fun c hc => h c (List.mem_append_left _ hc)
theorem rz_app {ds : List (List Int)} {t f g : List Int} (h : Rz ds f g) : Rz (ds ++ [t]) f g := ⟨fun e => h.1 (lez_app e), fun e => h.2 (lez_app e)⟩
theorem new_eq (fs ds : List (List Int)) (t : List Int) : newF fs ds t fs.length = (prsF fs ds t).map fun p => levF (fs.getD p.2 []) (fs.getD p.1 []) t := by
  unfold newF prsF rowF
  rw [List.map_flatMap]
  congr 1
  funext i
  rw [List.map_map]
  rfl
section
variable {n : Nat} {s : St} {t : List Int}
theorem lev_zero (I : Inv n s) {u d : List Int} (hu : u ∈ s.fs) (hd : d ∈ s.fs) (tu : 0 < dot t u) (td : dot t d < 0) : dot t (levF d u t) = 0 ∧ ∀ c ∈ s.ds, dot c (levF d u t) = 0 ↔ dot c u = 0 ∧ dot c d = 0 := by
  obtain ⟨_, ⟨c0, hc0, p0⟩, z3⟩ := lev_pair (t := t) I hu hd tu td
  have g0 : 0 < gcdF (combF (dot t u) (dot t d) d u) := gcd_of_dot (t := c0) (by omega)
  refine ⟨(low_pos g0).2.1.mp z3, fun c hc => ?_⟩
  have e := (low_pos (t := c) g0).2.1
  have dz : dot c (combF (dot t u) (dot t d) d u) = dot t u * dot c d - dot t d * dot c u := dot_comb (by rw [I.lf d hd, I.lf u hu])
  constructor
  · intro h0
    have h0 := e.mpr h0
    rw [dz] at h0
    have a1 := Int.mul_nonneg (Int.le_of_lt tu) ((I.f d hd).1 c hc)
    have a2 := Int.mul_nonneg (show 0 ≤ -dot t d by omega) ((I.f u hu).1 c hc)
    rw [Int.neg_mul] at a2
    exact ⟨(Int.mul_eq_zero.mp (show dot t d * dot c u = 0 by omega)).resolve_left (by omega), (Int.mul_eq_zero.mp (show dot t u * dot c d = 0 by omega)).resolve_left (by omega)⟩
  · rintro ⟨h1, h2⟩
    refine e.mp ?_
    rw [dz, h1, h2, Int.mul_zero, Int.mul_zero]
    rfl
theorem ac_arrows (I : Inv n s) (A : AC s.fs s.ds) : AC (cutA s.fs s.ds t) (s.ds ++ [t]) := by
  have A0 := A
  rw [ac_pw] at A ⊢
  have pr : ∀ p ∈ prsF s.fs s.ds t, p.1 < s.fs.length ∧ p.2 < s.fs.length ∧ 0 < dot t (s.fs.getD p.1 []) ∧ dot t (s.fs.getD p.2 []) < 0 ∧ p.1 ≠ p.2 ∧ nbF (s.fs.getD p.1 []) (s.fs.getD p.2 []) s.fs s.ds = true := fun p hp => by
    obtain ⟨h1, h2, h3⟩ := prs_mem hp
    unfold condF at h3
    obtain ⟨c1, c2⟩ := Bool.and_eq_true_iff.mp h3
    obtain ⟨c3, c4⟩ := Bool.and_eq_true_iff.mp c2
    have q1 := of_decide_eq_true c1
    have q2 := of_decide_eq_true c3
    refine ⟨h1, h2, q1, q2, fun e => ?_, c4⟩
    rw [e] at q1
    omega
  unfold cutA
  rw [List.pairwise_append]
  refine ⟨(A.imp fun h => rz_app h).filter _, ?_, fun a ha b hb => ?_⟩
  · rw [new_eq, List.pairwise_map]
    have key : ∀ p ∈ prsF s.fs s.ds t, ∀ q ∈ prsF s.fs s.ds t, LeZ (s.ds ++ [t]) (levF (s.fs.getD p.2 []) (s.fs.getD p.1 []) t) (levF (s.fs.getD q.2 []) (s.fs.getD q.1 []) t) → p = q := fun p hp q hq le => by
      obtain ⟨p1, p2, pu, pd, pn, pb⟩ := pr p hp
      obtain ⟨q1, q2, qu, qd, qn, qb⟩ := pr q hq
      have zp := (lev_zero I (gD_mem p1) (gD_mem p2) pu pd).2
      have zq := (lev_zero I (gD_mem q1) (gD_mem q2) qu qd).2
      have le2 := lez_app le
      have r1 : q.1 = p.1 := by
        rcases nb_two p1 p2 pn pb q1 (fun c hc h1 h2 => ((zq c hc).mp (le2 c hc ((zp c hc).mpr ⟨h1, h2⟩))).1) with r | r
        · exact r
        · rw [r] at qu
          omega
      have r2 : q.2 = p.2 := by
        rcases nb_two p1 p2 pn pb q2 (fun c hc h1 h2 => ((zq c hc).mp (le2 c hc ((zp c hc).mpr ⟨h1, h2⟩))).2) with r | r
        · rw [r] at qd
          omega
        · exact r
      exact Prod.ext r1.symm r2.symm
    refine List.Pairwise.imp_of_mem (fun {p q} hp hq h => ?_) (prs_nodup s.fs s.ds t)
    exact ⟨fun e => h (key p hp q hq e), fun e => h (key q hq p hp e).symm⟩
  · obtain ⟨ha1, ha2⟩ := List.mem_filter.mp ha
    have ta := of_decide_eq_true ha2
    obtain ⟨k, hk, rfl⟩ := gD_ex ha1
    rw [new_eq] at hb
    obtain ⟨p, hp, rfl⟩ := List.mem_map.mp hb
    obtain ⟨p1, p2, pu, pd, pn, pb⟩ := pr p hp
    obtain ⟨zt, zp⟩ := lev_zero I (gD_mem p1) (gD_mem p2) pu pd
    refine ⟨fun e => ?_, fun e => ?_⟩
    · have e2 := lez_app e
      have r1 := A0 k p.1 hk p1 fun c hc h0 => ((zp c hc).mp (e2 c hc h0)).1
      have r2 := A0 k p.2 hk p2 fun c hc h0 => ((zp c hc).mp (e2 c hc h0)).2
      omega
    · have e2 := lez_app e
      have tz := e t (List.mem_append_right _ (List.mem_singleton.mpr rfl)) zt
      rcases nb_two p1 p2 pn pb hk (fun c hc h1 h2 => e2 c hc ((zp c hc).mpr ⟨h1, h2⟩)) with r | r
      · rw [r] at tz
        omega
      · rw [r] at tz
        omega
theorem ac_lines (I : Inv n s) {a : List Int} {r : List (List Int)} (h : acrF s.ls t = a :: r) (A : AC s.fs s.ds) : AC (lvlA s.fs a t) (s.ds ++ [t]) := by
  have ok : CutOk s.ls s.fs s.ds t := inv_ok I
  unfold CutOk at ok
  rw [h] at ok
  obtain ⟨ha, h0⟩ := acr_mem h
  have up := up_pos h0
  have la := I.ll a ha
  rw [ac_pw] at A ⊢
  have zc : ∀ f ∈ s.fs, ∀ c ∈ s.ds, dot c (levF f (upF a t) t) = 0 ↔ dot c f = 0 := fun f hf c hc => by
    have e := (low_pos (t := c) (ok.2 f hf)).2.1
    rw [lev_arrow (t := t) I ha hf c hc] at e
    constructor
    · intro q
      exact (Int.mul_eq_zero.mp (e.mpr q)).resolve_left (by omega)
    · intro q
      exact e.mp (by rw [q, Int.mul_zero])
  have upz : ∀ c ∈ s.ds, dot c (upF a t) = 0 := fun c hc => by
    rcases dot_up (s := c) (a := a) (t := t) with e | e <;> rw [e, I.z a ha c hc]
    rfl
  unfold lvlA
  rw [List.pairwise_append]
  refine ⟨?_, List.pairwise_singleton _ _, fun b hb y hy => ?_⟩
  · rw [List.pairwise_map]
    refine List.Pairwise.imp_of_mem (fun {f g} hf hg q => ?_) A
    exact ⟨fun e => q.1 fun c hc z => (zc g hg c hc).mp (lez_app e c hc ((zc f hf c hc).mpr z)), fun e => q.2 fun c hc z => (zc f hf c hc).mp (lez_app e c hc ((zc g hg c hc).mpr z))⟩
  · obtain ⟨f, hf, rfl⟩ := List.mem_map.mp hb
    rw [List.mem_singleton.mp hy]
    have tz : dot t (levF f (upF a t) t) = 0 := by
      refine (low_pos (ok.2 f hf)).2.1.mp ?_
      rw [dot_comb (by rw [I.lf f hf, up_len, la]), Int.mul_comm]
      omega
    refine ⟨fun e => ?_, fun e => ?_⟩
    · have := e t (List.mem_append_right _ (List.mem_singleton.mpr rfl)) tz
      omega
    · obtain ⟨c, hc, hp⟩ := (I.f f hf).2
      have := (zc f hf c hc).mp (lez_app e c hc (upz c hc))
      omega
end
end Dd
set_option Elab.async false
set_option linter.all false
set_option maxRecDepth 100000
set_option maxHeartbeats 8000000
set_option exponentiation.threshold 10000
namespace Dd
open Rl Pg
theorem Bd.mono {a b : Nat} (h : a ≤ b) {g : List Int} (hg : Bd a g) : Bd b g := fun z hz => Nat.lt_of_lt_of_le (hg z hz) (Nat.pow_le_pow_right (by decide) h)
theorem lev_bd {a u t : List Int} {b m : Nat} (ha : Bd b a) (hu : Bd b u) (ht : Bd m t) (l1 : a.length = u.length) (l2 : t.length = u.length) (l4 : u.length ≤ 4) : Bd (2 * b + m + 4) (levF a u t) := by
  unfold levF
  refine low_bd ?_
  have c1 := dot_bd ht hu l2 l4
  have c2 := dot_bd ht ha (by omega) (by omega)
  have := comb_bd (m := m + b + 3) (n := b) c1 c2 ha hu l1
  exact Bd.mono (by omega) this
section
variable {n : Nat} {s : St} {t : List Int}
theorem bd_next (I : Inv n s) (lt : t.length = n) (n4 : n ≤ 4) {b m : Nat} (h1 : Bds b s.ls) (h2 : Bds b s.fs) (ht : Bd m t) : Bds (2 * b + m + 4) (s.next t).ls ∧ Bds (2 * b + m + 4) (s.next t).fs := by
  have up : ∀ g : List Int, Bd b g → Bd (2 * b + m + 4) g := fun g hg => Bd.mono (by omega) hg
  cases h : acrF s.ls t with
  | nil =>
    have e1 : (s.next t).ls = s.ls := by show cutL s.ls t = _; unfold cutL; rw [h]
    have e2 : (s.next t).fs = cutA s.fs s.ds t := by show cutF s.ls s.fs s.ds t = _; unfold cutF; rw [h]
    refine ⟨by rw [e1]; exact fun g hg => up g (h1 g hg), ?_⟩
    rw [e2]
    intro a ha
    rcases List.mem_append.mp ha with ha | ha
    · exact up a (h2 a (List.mem_filter.mp ha).1)
    · obtain ⟨i, hi, hr⟩ := List.mem_flatMap.mp ha
      obtain ⟨j, hj, rfl⟩ := List.mem_map.mp hr
      have i1 := gD_mem (List.mem_range.mp hi)
      have j1 := gD_mem (List.mem_range.mp (List.mem_filter.mp hj).1)
      have li := I.lf _ i1
      have lj := I.lf _ j1
      exact lev_bd (h2 _ j1) (h2 _ i1) ht (by omega) (by omega) (by omega)
  | cons a r =>
    obtain ⟨ha, h0⟩ := acr_mem h
    have la := I.ll a ha
    have e1 : (s.next t).ls = lvlL s.ls a t := by show cutL s.ls t = _; unfold cutL; rw [h]
    have e2 : (s.next t).fs = lvlA s.fs a t := by show cutF s.ls s.fs s.ds t = _; unfold cutF; rw [h]
    have bu : Bd b (upF a t) := up_bd (h1 a ha)
    have lu : (upF a t).length = n := by rw [up_len, la]
    refine ⟨?_, ?_⟩
    · rw [e1]
      intro l hl
      obtain ⟨k, hk, rfl⟩ := List.mem_map.mp hl
      have k1 := (List.mem_filter.mp hk).1
      have := I.ll k k1
      exact lev_bd (h1 k k1) bu ht (by omega) (by omega) (by omega)
    · rw [e2]
      intro f hf
      rcases List.mem_append.mp hf with hf | hf
      · obtain ⟨g, hg, rfl⟩ := List.mem_map.mp hf
        have := I.lf g hg
        exact lev_bd (h2 g hg) bu ht (by omega) (by omega) (by omega)
      · rw [List.mem_singleton.mp hf]
        exact up _ bu
theorem ls_next : (s.next t).ls.length ≤ s.ls.length := by
  show (cutL s.ls t).length ≤ _
  unfold cutL
  split
  · exact Nat.le_refl _
  · unfold lvlL
    rw [List.length_map]
    exact List.length_filter_le _ _
theorem fs_next : (s.next t).fs.length ≤ s.fs.length + 2 ^ s.ds.length := by
  show (cutF s.ls s.fs s.ds t).length ≤ _
  have p : 0 < 2 ^ s.ds.length := Nat.two_pow_pos _
  unfold cutF
  split
  · unfold cutA
    rw [List.length_append]
    have h1 := List.length_filter_le (fun a => decide (0 ≤ dot t a)) s.fs
    have h2 := new_few s.fs s.ds t
    omega
  · unfold lvlA
    rw [List.length_append, List.length_map]
    show s.fs.length + 1 ≤ _
    omega
end
def bdN : Nat → Nat
  | 0 => 1
  | i + 1 => 2 * bdN i + 2 + 4
theorem bdN_mono : ∀ {i j : Nat}, i ≤ j → bdN i ≤ bdN j
  | i, 0, h => by
    have : i = 0 := by omega
    subst this
    exact Nat.le_refl _
  | i, j + 1, h => by
    rcases Nat.lt_or_ge i (j + 1) with q | q
    · have := bdN_mono (show i ≤ j by omega)
      show bdN i ≤ 2 * bdN j + 2 + 4
      omega
    · have : i = j + 1 := by omega
      subst this
      exact Nat.le_refl _
theorem unit_bd (n a : Nat) : Bd 1 (unitF n a) := fun z hz => by
  obtain ⟨o, _, rfl⟩ := List.mem_map.mp hz
  split <;> decide
theorem inv_zero (n : Nat) : Inv n ⟨unitsF n, [], []⟩ := by
  refine ⟨fun l hl => ?_, (fun l hl => nomatch hl), (fun l hl t ht => nomatch ht), (fun l hl => nomatch hl), fun l hl => ?_⟩
  · obtain ⟨a, _, rfl⟩ := List.mem_map.mp hl
    exact unit_len n a
  · obtain ⟨a, ha, rfl⟩ := List.mem_map.mp hl
    have ha2 := List.mem_range.mp ha
    have at_ : ∀ c, (unitF n c).getD a 0 = if a = c then 1 else 0 := fun c => by
      unfold unitF
      rw [List.getD_eq_getElem?_getD, List.getElem?_map, List.getElem?_range ha2]
      rfl
    refine ⟨a, ha2, by rw [at_, if_pos rfl]; decide, fun k hk hne => ?_⟩
    obtain ⟨c, _, rfl⟩ := List.mem_map.mp hk
    rw [at_, if_neg fun e => hne (by rw [e])]
theorem all_run {n : Nat} {ts : List (List Int)} (n4 : n ≤ 4) (lt : Ln n ts) (bt : Bds 2 ts) : ∀ i, i ≤ (allT n ts).length → Inv n (stF n (allT n ts) i) ∧ Bds (bdN i) (stF n (allT n ts) i).ls ∧ Bds (bdN i) (stF n (allT n ts) i).fs ∧ (stF n (allT n ts) i).ls.length ≤ n ∧ (stF n (allT n ts) i).fs.length + 1 ≤ 2 ^ i
  | 0, _ => by
    refine ⟨inv_zero n, fun l hl => ?_, fun l hl => ?_, ?_, ?_⟩
    · obtain ⟨a, _, rfl⟩ := List.mem_map.mp (show l ∈ unitsF n from hl)
      exact unit_bd n a
    · cases (show l ∈ ([] : List (List Int)) from hl)
    · show (unitsF n).length ≤ n
      simp [unitsF]
    · show 0 + 1 ≤ 2 ^ 0
      decide
  | i + 1, h => by
    obtain ⟨I, b1, b2, l1, l2⟩ := all_run n4 lt bt i (by omega)
    have e : (allT n ts)[i]? = some (allT n ts)[i] := List.getElem?_eq_getElem (by omega)
    have hm : (allT n ts)[i] ∈ allT n ts := List.getElem_mem _
    have lt2 : (allT n ts)[i].length = n := by
      rcases List.mem_cons.mp hm with q | q
      · rw [q]
        exact unit_len _ _
      · exact lt _ q
    have bt2 : Bd 2 (allT n ts)[i] := by
      rcases List.mem_cons.mp hm with q | q
      · rw [q]
        exact Bd.mono (by decide) (unit_bd _ _)
      · exact bt _ q
    rw [st_succ e]
    obtain ⟨c1, c2⟩ := bd_next I lt2 n4 b1 b2 bt2
    refine ⟨inv_next I lt2, c1, c2, Nat.le_trans ls_next l1, ?_⟩
    have := fs_next (s := stF n (allT n ts) i) (t := (allT n ts)[i])
    rw [st_ds i (by omega), List.length_take, Nat.min_eq_left (by omega)] at this
    rw [Nat.pow_succ]
    omega
theorem lst_ok {n : Nat} {ts : List (List Int)} {g : List Int} (n2 : 2 ≤ n) (n4 : n ≤ 4) (lt : Ln n ts) (lg : g.length = n) (bt : Bds 2 ts) (bg : Bd 400 g) (tl : ts.length ≤ 9) : LstOk n ts g := by
  have run := all_run n4 lt bt
  have al : (allT n ts).length = ts.length + 1 := rfl
  obtain ⟨I, b1, b2, l1, l2⟩ := run (ts.length + 1) (by omega)
  have p10 : 2 ^ (ts.length + 1) ≤ 1024 := Nat.pow_le_pow_right (by decide) (by omega : ts.length + 1 ≤ 10)
  have bb : bdN (ts.length + 1) ≤ 8600 := Nat.le_trans (bdN_mono (show ts.length + 1 ≤ 10 by omega)) (by decide)
  refine ⟨n2, n4, lt, lg, fun t ht => Bd.mono (by decide) (bt t ht), bg, by omega, ⟨I.ll, fun i hi => ?_, fun i t e => ?_, by omega, by omega⟩, fun a ha => ?_, fun a ha => ?_, ?_⟩
  · obtain ⟨J, c1, c2, k1, k2⟩ := run i (by omega)
    have p9 : 2 ^ i ≤ 512 := Nat.pow_le_pow_right (by decide) (by omega : i ≤ 9)
    have b9 : bdN i ≤ 4000 := Nat.le_trans (bdN_mono (show i ≤ 9 by omega)) (by decide)
    exact ⟨by omega, by omega, J.ll, J.lf, fun l hl => Bd.mono b9 (c1 l hl), fun l hl => Bd.mono b9 (c2 l hl)⟩
  · have hi : i < (allT n ts).length := (List.getElem?_eq_some_iff.mp e).1
    exact inv_ok (run i (by omega)).1
  · rcases List.mem_append.mp ha with ha | ha
    · rcases List.mem_append.mp ha with ha | ha
      · exact I.lf a ha
      · exact I.ll a ha
    · obtain ⟨l, hl, rfl⟩ := List.mem_map.mp ha
      rw [neg_len]
      exact I.ll l hl
  · rcases List.mem_append.mp ha with ha | ha
    · rcases List.mem_append.mp ha with ha | ha
      · exact Bd.mono bb (b2 a ha)
      · exact Bd.mono bb (b1 a ha)
    · obtain ⟨l, hl, rfl⟩ := List.mem_map.mp ha
      exact neg_bd (Bd.mono bb (b1 l hl))
  · unfold arrF
    rw [List.length_append, List.length_append, List.length_map]
    omega
end Dd
set_option Elab.async false
set_option linter.all false
set_option maxRecDepth 100000
set_option maxHeartbeats 4000000
namespace Dd
open Rl Pg
/-! ### what `arrows` finds makes up all -/
structure Full (n : Nat) (s : St) : Prop where
  i : Inv n s
  d : Ln n s.ds
  a : AC s.fs s.ds
  c : Comp n s
section
variable {n : Nat} {s : St} {t : List Int}
theorem full_next (F : Full n s) (lt : t.length = n) : Full n (s.next t) := by
  obtain ⟨I, D, A, C⟩ := F
  have ok : CutOk s.ls s.fs s.ds t := inv_ok I
  unfold CutOk at ok
  have D2 : Ln n (s.ds ++ [t]) := fun c hc => by
    rcases List.mem_append.mp hc with hc | hc
    · exact D c hc
    · rw [List.mem_singleton.mp hc]
      exact lt
  have e3 : (s.next t).ds = s.ds ++ [t] := rfl
  cases h : acrF s.ls t with
  | nil =>
    have e1 : (s.next t).ls = s.ls := by show cutL s.ls t = _; unfold cutL; rw [h]
    have e2 : (s.next t).fs = cutA s.fs s.ds t := by show cutF s.ls s.fs s.ds t = _; unfold cutF; rw [h]
    refine ⟨inv_next I lt, by rw [e3]; exact D2, by rw [e2, e3]; exact ac_arrows I A, fun x lx hx => ?_⟩
    rw [e1, e2]
    rw [e3] at hx
    exact arrows_keep I lt D h A C _ x (Nat.lt_succ_self _) lx (fun c hc => hx c (List.mem_append_left _ hc)) (hx t (List.mem_append_right _ (List.mem_singleton.mpr rfl)))
  | cons a r =>
    rw [h] at ok
    obtain ⟨ha, h0⟩ := acr_mem h
    have up := up_pos h0
    have la := I.ll a ha
    have lu : (upF a t).length = n := by rw [up_len, la]
    have e1 : (s.next t).ls = lvlL s.ls a t := by show cutL s.ls t = _; unfold cutL; rw [h]
    have e2 : (s.next t).fs = lvlA s.fs a t := by show cutF s.ls s.fs s.ds t = _; unfold cutF; rw [h]
    refine ⟨inv_next I lt, by rw [e3]; exact D2, by rw [e2, e3]; exact ac_lines I h A, fun x lx hx => ?_⟩
    rw [e1, e2]
    rw [e3] at hx
    intro g lg g0 g1
    have gu : 0 ≤ dot g (upF a t) := g1 _ (List.mem_append_right _ (List.mem_singleton.mpr rfl))
    have dg : ∀ y : List Int, y.length = n → dot (combF (dot t (upF a t)) (dot g (upF a t)) g t) y = dot t (upF a t) * dot g y - dot g (upF a t) * dot t y := fun y ly => dot_combL (by rw [lg, ly])
    have dl : ∀ y : List Int, y.length = n → dot g (combF (dot t (upF a t)) (dot t y) y (upF a t)) = dot t (upF a t) * dot g y - dot t y * dot g (upF a t) := fun y ly => dot_comb (by rw [ly, lu])
    have tx := hx t (List.mem_append_right _ (List.mem_singleton.mpr rfl))
    have r := C x lx (fun c hc => hx c (List.mem_append_left _ hc)) (combF (dot t (upF a t)) (dot g (upF a t)) g t) (by rw [comb_len, lg]) (fun l hl => by
      rw [dg l (I.ll l hl)]
      by_cases q : l = a
      · rw [q]
        unfold upF
        split
        · rw [dot_neg, dot_neg, Int.neg_mul, Int.neg_mul, Int.mul_comm]
          omega
        · rw [Int.mul_comm]
          omega
      · have gk := ok.1 l hl q
        have z := g0 (levF l (upF a t) t) (List.mem_map.mpr ⟨l, List.mem_filter.mpr ⟨hl, by rw [decide_eq_false q]; rfl⟩, rfl⟩)
        have z2 := (low_pos (t := g) gk).2.1.mpr z
        rw [dl l (I.ll l hl)] at z2
        rw [Int.mul_comm (dot g (upF a t))]
        exact z2) fun f hf => by
      rw [dg f (I.lf f hf)]
      have gk := ok.2 f hf
      have z := g1 (levF f (upF a t) t) (List.mem_append_left _ (List.mem_map.mpr ⟨f, hf, rfl⟩))
      have z2 := (low_pos (t := g) gk).2.2.mpr z
      rw [dl f (I.lf f hf)] at z2
      rw [Int.mul_comm (dot g (upF a t))]
      exact z2
    rw [dg x lx] at r
    have := Int.mul_nonneg gu tx
    rcases Int.lt_or_le (dot g x) 0 with q | q
    · have := Int.mul_neg_of_pos_of_neg up q
      omega
    · exact q
theorem unit_dot {n a : Nat} (ha : a < n) {g : List Int} : dot g (unitF n a) = g.getD a 0 := by
  unfold dot
  rw [unit_len]
  have at_ : ∀ i, i < n → (unitF n a).getD i 0 = if i = a then 1 else 0 := fun i hi => by
    unfold unitF
    rw [List.getD_eq_getElem?_getD, List.getElem?_map, List.getElem?_range hi]
    rfl
  have : ∀ k, k ≤ n → ((List.range k).map fun i => g.getD i 0 * (unitF n a).getD i 0).sum = if a < k then g.getD a 0 else 0 := by
    intro k
    induction k with
    | zero => intro _; simp
    | succ k ih =>
      intro hk
      rw [List.range_succ, List.map_append, List.sum_append, ih (by omega), List.map_singleton, List.sum_singleton, at_ k (by omega)]
      by_cases q : k = a
      · rw [if_neg (by omega), if_pos q, if_pos (by omega), q]
        omega
      · rw [if_neg q, Int.mul_zero, Int.add_zero]
        by_cases q2 : a < k
        · rw [if_pos q2, if_pos (by omega)]
        · rw [if_neg q2, if_neg (by omega)]
  rw [this n (Nat.le_refl _), if_pos ha]
theorem full_zero (n : Nat) : Full n ⟨unitsF n, [], []⟩ := by
  refine ⟨inv_zero n, (fun c hc => by cases hc), (fun i j hi => by cases hi), fun x lx _ g lg g0 _ => ?_⟩
  have gz : ∀ i, i < n → g.getD i 0 = 0 := fun i hi => by
    rw [← unit_dot (n := n) hi]
    exact g0 _ (List.mem_map.mpr ⟨i, List.mem_range.mpr hi, rfl⟩)
  unfold dot
  rw [sum_lin x.length (fun i => g.getD i 0 * x.getD i 0) (fun _ => 0) (fun _ => 0) 0 0 (fun i hi => by
    rw [gz i (by omega), Int.zero_mul]
    rfl)]
  omega
theorem full_run {n : Nat} {ts : List (List Int)} (lt : Ln n ts) : ∀ i, i ≤ ts.length → Full n (stF n ts i)
  | 0, _ => full_zero n
  | i + 1, h => by
    have hi : i < ts.length := by omega
    rw [st_succ (t := ts[i]) (by rw [List.getElem?_eq_getElem hi])]
    exact full_next (full_run lt i (by omega)) (lt _ (List.getElem_mem hi))
end
end Dd
set_option Elab.async false
set_option linter.all false
set_option maxRecDepth 100000
set_option maxHeartbeats 4000000
namespace Dd
open Rl Pg
/-! ### what the answer of `least` says -/
theorem dot_comm {f g : List Int} (l : f.length = g.length) : dot f g = dot g f := by
  unfold dot
  rw [l]
  congr 1
  refine List.map_congr_left fun i _ => Int.mul_comm _ _
theorem dot_last {n : Nat} {x : List Int} (n1 : 1 ≤ n) (lx : x.length = n) : dot (unitF n (n - 1)) x = lastI x := by
  rw [dot_comm (by rw [unit_len, lx]), unit_dot (by omega)]
  unfold lastI
  rw [lx]
section
variable {n : Nat} {ts : List (List Int)}
theorem arr_full (lt : Ln n ts) : Full n (stF n (allT n ts) (ts.length + 1)) ∧ (stF n (allT n ts) (ts.length + 1)).ds = allT n ts := by
  have la : Ln n (allT n ts) := fun c hc => by
    rcases List.mem_cons.mp hc with rfl | hc
    · exact unit_len n _
    · exact lt c hc
  refine ⟨full_run la _ (Nat.le_refl _), ?_⟩
  have e := st_ds (n := n) (ts := allT n ts) (allT n ts).length (Nat.le_refl _)
  rw [List.take_length] at e
  exact e
/-- a place of the cone -/
structure In (n : Nat) (ts : List (List Int)) (x : List Int) : Prop where
  l : x.length = n
  p : 0 ≤ lastI x
  t : ∀ c ∈ ts, 0 ≤ dot c x
theorem arr_in (n1 : 1 ≤ n) (lt : Ln n ts) : ∀ a ∈ arrF n ts, In n ts a := fun a ha => by
  obtain ⟨F, e⟩ := arr_full lt
  have mk : ∀ y : List Int, y.length = n → (∀ c ∈ allT n ts, 0 ≤ dot c y) → In n ts y := fun y ly h => ⟨ly, by rw [← dot_last n1 ly]; exact h _ (List.mem_cons_self ..), fun c hc => h c (List.mem_cons_of_mem _ hc)⟩
  unfold arrF at ha
  rcases List.mem_append.mp ha with ha | ha
  · rcases List.mem_append.mp ha with ha | ha
    · exact mk a (F.i.lf a ha) fun c hc => (F.i.f a ha).1 c (by rw [e]; exact hc)
    · exact mk a (F.i.ll a ha) fun c hc => by
        rw [F.i.z a ha c (by rw [e]; exact hc)]
        omega
  · obtain ⟨l, hl, rfl⟩ := List.mem_map.mp ha
    exact mk _ (by rw [neg_len, F.i.ll l hl]) fun c hc => by
      rw [dot_neg, F.i.z l hl c (by rw [e]; exact hc)]
      omega
theorem arr_gen (n1 : 1 ≤ n) (lt : Ln n ts) {x g : List Int} (hx : In n ts x) (lg : g.length = n) (h : ∀ a ∈ arrF n ts, 0 ≤ dot g a) : 0 ≤ dot g x := by
  obtain ⟨F, e⟩ := arr_full lt
  refine F.c x hx.l (fun c hc => ?_) g lg (fun l hl => ?_) fun f hf => h f ?_
  · rw [e] at hc
    rcases List.mem_cons.mp hc with rfl | hc
    · rw [dot_last n1 hx.l]
      exact hx.p
    · exact hx.t c hc
  · have h1 := h l (by unfold arrF; exact List.mem_append_left _ (List.mem_append_right _ hl))
    have h2 := h (negF l) (by unfold arrF; exact List.mem_append_right _ (List.mem_map.mpr ⟨l, hl, rfl⟩))
    rw [dot_neg] at h2
    omega
  · unfold arrF
    exact List.mem_append_left _ (List.mem_append_left _ hf)
theorem reach_iff (n1 : 1 ≤ n) (lt : Ln n ts) : reachF (arrF n ts) = true ↔ ∃ x, In n ts x ∧ 0 < lastI x := by
  constructor
  · intro h
    obtain ⟨a, ha, hp⟩ := List.any_eq_true.mp h
    exact ⟨a, arr_in n1 lt a ha, of_decide_eq_true hp⟩
  · rintro ⟨x, hx, hp⟩
    refine Classical.byContradiction fun q => ?_
    have z : ∀ a ∈ arrF n ts, lastI a = 0 := fun a ha => by
      have h1 := (arr_in n1 lt a ha).p
      have h2 : ¬ 0 < lastI a := fun r => q (List.any_eq_true.mpr ⟨a, ha, decide_eq_true r⟩)
      omega
    have dn : ∀ y : List Int, y.length = n → dot (negF (unitF n (n - 1))) y = -lastI y := fun y ly => by
      rw [dot_comm (by rw [neg_len, unit_len, ly]), dot_neg, dot_comm (by rw [unit_len, ly]), dot_last n1 ly]
    have := arr_gen n1 lt hx (g := negF (unitF n (n - 1))) (by rw [neg_len, unit_len]) fun a ha => by
      rw [dn a (arr_in n1 lt a ha).l, z a ha]
      omega
    rw [dn x hx.l] at this
    omega
theorem best_pair {vs : List (List Int)} (hv : ∀ v ∈ vs, v.length = 2 ∧ 0 < v.getD 1 0) : ∀ {us : List (List Int)} {b : List Int}, (∀ v ∈ us, v ∈ vs) → b ∈ vs → us.foldl stepB b ∈ vs ∧ (us.foldl stepB b).getD 0 0 * b.getD 1 0 ≤ b.getD 0 0 * (us.foldl stepB b).getD 1 0 ∧ ∀ v ∈ us, (us.foldl stepB b).getD 0 0 * v.getD 1 0 ≤ v.getD 0 0 * (us.foldl stepB b).getD 1 0
  | [], b, _, hb => ⟨hb, Int.le_refl _, fun v h => by cases h⟩
  | v :: us, b, hu, hb => by
    have hvm := hu v (List.mem_cons_self ..)
    have v1 := (hv v hvm).2
    have b1 := (hv b hb).2
    have hs : stepB b v ∈ vs ∧ (stepB b v).getD 0 0 * b.getD 1 0 ≤ b.getD 0 0 * (stepB b v).getD 1 0 ∧ (stepB b v).getD 0 0 * v.getD 1 0 ≤ v.getD 0 0 * (stepB b v).getD 1 0 := by
      unfold stepB lessP
      by_cases q : v.getD 0 0 * b.getD 1 0 < b.getD 0 0 * v.getD 1 0
      · rw [if_pos (decide_eq_true q)]
        exact ⟨hvm, Int.le_of_lt q, Int.le_refl _⟩
      · rw [if_neg (by rw [decide_eq_false q]; decide)]
        exact ⟨hb, Int.le_refl _, by omega⟩
    obtain ⟨r1, r2, r3⟩ := best_pair hv (us := us) (b := stepB b v) (fun w hw => hu w (List.mem_cons_of_mem _ hw)) hs.1
    have s1 := (hv _ hs.1).2
    have p1 := (hv _ r1).2
    rw [List.foldl_cons]
    refine ⟨r1, ratio p1 s1 b1 r2 hs.2.1, fun w hw => ?_⟩
    rcases List.mem_cons.mp hw with rfl | hw
    · exact ratio p1 s1 v1 r2 hs.2.2
    · exact r3 w hw
/-- the least value: where it is taken, and that nothing is below -/
theorem least_is (n1 : 1 ≤ n) (lt : Ln n ts) {g : List Int} (lg : g.length = n) (h1 : reachF (arrF n ts) = true) (h2 : endF (arrF n ts) g = []) :
    ∃ p q : Int, bestF (valsF (arrF n ts) g) = [p, q] ∧ 0 < q ∧ (∃ a, In n ts a ∧ lastI a = q ∧ dot g a = p) ∧ ∀ x, In n ts x → p * lastI x ≤ dot g x * q := by
  have hv : ∀ v ∈ valsF (arrF n ts) g, ∃ a ∈ arrF n ts, 0 < lastI a ∧ v = [dot g a, lastI a] := fun v hm => by
    obtain ⟨a, ha, rfl⟩ := List.mem_map.mp hm
    obtain ⟨h3, h4⟩ := List.mem_filter.mp ha
    exact ⟨a, h3, of_decide_eq_true h4, rfl⟩
  have hv2 : ∀ v ∈ valsF (arrF n ts) g, v.length = 2 ∧ 0 < v.getD 1 0 := fun v hm => by
    obtain ⟨a, _, hp, rfl⟩ := hv v hm
    exact ⟨rfl, hp⟩
  obtain ⟨a0, ha0, hp0⟩ := List.any_eq_true.mp h1
  have m0 : [dot g a0, lastI a0] ∈ valsF (arrF n ts) g := List.mem_map.mpr ⟨a0, List.mem_filter.mpr ⟨ha0, hp0⟩, rfl⟩
  have hb : (valsF (arrF n ts) g).getD 0 [] ∈ valsF (arrF n ts) g := by
    cases e : valsF (arrF n ts) g with
    | nil =>
      rw [e] at m0
      cases m0
    | cons v r => exact List.mem_cons_self ..
  obtain ⟨r1, _, r3⟩ := best_pair hv2 (us := valsF (arrF n ts) g) (b := (valsF (arrF n ts) g).getD 0 []) (fun v hm => hm) hb
  obtain ⟨a, ha, hp, eb⟩ := hv _ r1
  have eB : bestF (valsF (arrF n ts) g) = [dot g a, lastI a] := eb
  refine ⟨dot g a, lastI a, eB, hp, ⟨a, arr_in n1 lt a ha, rfl, rfl⟩, fun x hx => ?_⟩
  have dg : ∀ y : List Int, y.length = n → dot (combF (lastI a) (dot g a) g (unitF n (n - 1))) y = lastI a * dot g y - dot g a * lastI y := fun y ly => by
    rw [dot_combL (by rw [lg, ly]), dot_last n1 ly]
  have := arr_gen n1 lt hx (g := combF (lastI a) (dot g a) g (unitF n (n - 1))) (by rw [comb_len, lg]) fun b hb2 => by
    have ib := arr_in n1 lt b hb2
    rw [dg b ib.l]
    by_cases q : 0 < lastI b
    · have := r3 [dot g b, lastI b] (List.mem_map.mpr ⟨b, List.mem_filter.mpr ⟨hb2, decide_eq_true q⟩, rfl⟩)
      rw [eb] at this
      have e3 : dot g a * lastI b ≤ dot g b * lastI a := this
      rw [Int.mul_comm (dot g b)] at e3
      omega
    · have z : lastI b = 0 := by
        have := ib.p
        omega
      rw [z, Int.mul_zero, Int.sub_zero]
      refine Int.mul_nonneg (by omega) ?_
      refine Classical.byContradiction fun r => ?_
      have : b ∈ endF (arrF n ts) g := List.mem_filter.mpr ⟨hb2, by rw [decide_eq_true z, decide_eq_true (by omega : dot g b < 0)]; rfl⟩
      rw [h2] at this
      cases this
  rw [dg x hx.l, Int.mul_comm (lastI a)] at this
  omega
/-- endless: below all, there is a way on which no test is broken -/
theorem end_iff (n1 : 1 ≤ n) (lt : Ln n ts) {g : List Int} (lg : g.length = n) : endF (arrF n ts) g ≠ [] ↔ ∃ x, In n ts x ∧ lastI x = 0 ∧ dot g x < 0 := by
  constructor
  · intro h
    cases e : endF (arrF n ts) g with
    | nil => exact absurd e h
    | cons a r =>
      have ha : a ∈ endF (arrF n ts) g := by rw [e]; exact List.mem_cons_self ..
      obtain ⟨h1, h2⟩ := List.mem_filter.mp ha
      obtain ⟨h3, h4⟩ := Bool.and_eq_true_iff.mp h2
      exact ⟨a, arr_in n1 lt a h1, of_decide_eq_true h3, of_decide_eq_true h4⟩
  · rintro ⟨x, hx, x0, gx⟩ e
    have K0 := over_nn (g := g) (arrF n ts)
    have dg : ∀ y : List Int, y.length = n → dot (combF 1 (-(overF g (arrF n ts))) g (unitF n (n - 1))) y = dot g y + overF g (arrF n ts) * lastI y := fun y ly => by
      rw [dot_combL (by rw [lg, ly]), dot_last n1 ly, Int.one_mul, Int.neg_mul]
      omega
    have := arr_gen n1 lt hx (g := combF 1 (-(overF g (arrF n ts))) g (unitF n (n - 1))) (by rw [comb_len, lg]) fun b hb => by
      have ib := arr_in n1 lt b hb
      rw [dg b ib.l]
      by_cases q : 0 < lastI b
      · have h1 := over_le (g := g) hb
        have h2 := Int.mul_le_mul_of_nonneg_left (show 1 ≤ lastI b by omega) K0
        rw [Int.mul_one] at h2
        omega
      · have z : lastI b = 0 := by
          have := ib.p
          omega
        rw [z, Int.mul_zero, Int.add_zero]
        refine Classical.byContradiction fun r => ?_
        have : b ∈ endF (arrF n ts) g := List.mem_filter.mpr ⟨hb, by rw [decide_eq_true z, decide_eq_true (by omega : dot g b < 0)]; rfl⟩
        rw [e] at this
        cases this
    rw [dg x hx.l, x0, Int.mul_zero, Int.add_zero] at this
    omega
end
end Dd
set_option Elab.async false
set_option linter.all false
set_option maxRecDepth 100000
set_option maxHeartbeats 4000000
set_option exponentiation.threshold 10000
namespace Dd
open Rl Pg
/-! ### sizes, each test's own -/
/-- bits of lines and arrows behind i cuts, m what the tests have -/
def bdM (m : Nat → Nat) : Nat → Nat
  | 0 => 1
  | 1 => 7
  | i + 2 => 2 * bdM m (i + 1) + m i + 4
theorem bdM_step (m : Nat → Nat) : ∀ i, bdM m i ≤ bdM m (i + 1)
  | 0 => by
    show 1 ≤ 7
    decide
  | i + 1 => by
    show bdM m (i + 1) ≤ 2 * bdM m (i + 1) + m i + 4
    omega
theorem bdM_mono (m : Nat → Nat) : ∀ {i j : Nat}, i ≤ j → bdM m i ≤ bdM m j
  | i, 0, h => by
    have : i = 0 := by omega
    subst this
    exact Nat.le_refl _
  | i, j + 1, h => by
    rcases Nat.lt_or_ge i (j + 1) with q | q
    · exact Nat.le_trans (bdM_mono m (show i ≤ j by omega)) (bdM_step m j)
    · have : i = j + 1 := by omega
      subst this
      exact Nat.le_refl _
theorem all_runB {n : Nat} {ts : List (List Int)} {m : Nat → Nat} (n4 : n ≤ 4) (lt : Ln n ts) (bt : ∀ i c, ts[i]? = some c → Bd (m i) c) : ∀ i, i ≤ (allT n ts).length → Inv n (stF n (allT n ts) i) ∧ Bds (bdM m i) (stF n (allT n ts) i).ls ∧ Bds (bdM m i) (stF n (allT n ts) i).fs ∧ (stF n (allT n ts) i).ls.length ≤ n ∧ (stF n (allT n ts) i).fs.length + 1 ≤ 2 ^ i
  | 0, _ => by
    refine ⟨inv_zero n, fun l hl => ?_, fun l hl => ?_, ?_, ?_⟩
    · obtain ⟨a, _, rfl⟩ := List.mem_map.mp (show l ∈ unitsF n from hl)
      exact unit_bd n a
    · cases (show l ∈ ([] : List (List Int)) from hl)
    · show (unitsF n).length ≤ n
      simp [unitsF]
    · show 0 + 1 ≤ 2 ^ 0
      decide
  | i + 1, h => by
    obtain ⟨I, b1, b2, l1, l2⟩ := all_runB n4 lt bt i (by omega)
    have e : (allT n ts)[i]? = some (allT n ts)[i] := List.getElem?_eq_getElem (by omega)
    have hm : (allT n ts)[i] ∈ allT n ts := List.getElem_mem _
    have lt2 : (allT n ts)[i].length = n := by
      rcases List.mem_cons.mp hm with q | q
      · rw [q]
        exact unit_len _ _
      · exact lt _ q
    have st : ∃ k, Bd k (allT n ts)[i] ∧ 2 * bdM m i + k + 4 = bdM m (i + 1) := by
      cases i with
      | zero => exact ⟨1, unit_bd _ _, rfl⟩
      | succ i => exact ⟨m i, bt i _ e, rfl⟩
    obtain ⟨k, bt2, ek⟩ := st
    rw [st_succ e]
    obtain ⟨c1, c2⟩ := bd_next I lt2 n4 b1 b2 bt2
    rw [ek] at c1 c2
    refine ⟨inv_next I lt2, c1, c2, Nat.le_trans ls_next l1, ?_⟩
    have := fs_next (s := stF n (allT n ts) i) (t := (allT n ts)[i])
    rw [st_ds i (by omega), List.length_take, Nat.min_eq_left (by omega)] at this
    rw [Nat.pow_succ]
    omega
theorem lst_okB {n : Nat} {ts : List (List Int)} {g : List Int} {m : Nat → Nat} (n2 : 2 ≤ n) (n4 : n ≤ 4) (lt : Ln n ts) (lg : g.length = n) (bt : ∀ i c, ts[i]? = some c → Bd (m i) c) (b4 : Bds 400 ts) (bg : Bd 400 g) (tl : ts.length ≤ 9) (s1 : bdM m ts.length ≤ 4000) (s2 : bdM m (ts.length + 1) ≤ 8600) : LstOk n ts g := by
  have run := all_runB n4 lt bt
  have al : (allT n ts).length = ts.length + 1 := rfl
  obtain ⟨I, b1, b2, l1, l2⟩ := run (ts.length + 1) (by omega)
  have p10 : 2 ^ (ts.length + 1) ≤ 1024 := Nat.pow_le_pow_right (by decide) (by omega : ts.length + 1 ≤ 10)
  refine ⟨n2, n4, lt, lg, b4, bg, by omega, ⟨I.ll, fun i hi => ?_, fun i t e => ?_, by omega, by omega⟩, fun a ha => ?_, fun a ha => ?_, ?_⟩
  · obtain ⟨J, c1, c2, k1, k2⟩ := run i (by omega)
    have p9 : 2 ^ i ≤ 512 := Nat.pow_le_pow_right (by decide) (by omega : i ≤ 9)
    have b9 : bdM m i ≤ 4000 := Nat.le_trans (bdM_mono m (show i ≤ ts.length by omega)) s1
    exact ⟨by omega, by omega, J.ll, J.lf, fun l hl => Bd.mono b9 (c1 l hl), fun l hl => Bd.mono b9 (c2 l hl)⟩
  · exact inv_ok (run i (by have := (List.getElem?_eq_some_iff.mp e).1; omega)).1
  · rcases List.mem_append.mp ha with ha | ha
    · rcases List.mem_append.mp ha with ha | ha
      · exact I.lf a ha
      · exact I.ll a ha
    · obtain ⟨l, hl, rfl⟩ := List.mem_map.mp ha
      rw [neg_len]
      exact I.ll l hl
  · rcases List.mem_append.mp ha with ha | ha
    · rcases List.mem_append.mp ha with ha | ha
      · exact Bd.mono s2 (b2 a ha)
      · exact Bd.mono s2 (b1 a ha)
    · obtain ⟨l, hl, rfl⟩ := List.mem_map.mp ha
      exact neg_bd (Bd.mono s2 (b1 l hl))
  · unfold arrF
    rw [List.length_append, List.length_append, List.length_map]
    omega
/-- six tests of 92 bits are not too many -/
theorem six_ok : bdM (fun _ => 92) 6 ≤ 4000 ∧ bdM (fun _ => 92) 7 ≤ 8600 := by decide
end Dd
set_option Elab.async false
set_option linter.all false
set_option maxRecDepth 100000
set_option maxHeartbeats 4000000
namespace Dd
/-! ### Euclid's way ends soon -/
def eu : Nat → Nat × Nat → Nat × Nat
  | 0, p => p
  | k + 1, p => eu k (if 0 < p.2 then (p.2, p.1 % p.2) else p)
def fibo : Nat → Nat
  | 0 => 1
  | 1 => 2
  | k + 2 => fibo (k + 1) + fibo k
theorem eu_gcd : ∀ (k : Nat) (p : Nat × Nat), Nat.gcd (eu k p).1 (eu k p).2 = Nat.gcd p.1 p.2
  | 0, _ => rfl
  | k + 1, p => by
    show Nat.gcd (eu k _).1 (eu k _).2 = _
    rw [eu_gcd k]
    split
    · rw [Nat.gcd_comm p.1 p.2, Nat.gcd_rec p.2 p.1, Nat.gcd_comm]
    · rfl
theorem eu_stay : ∀ (k : Nat) {p : Nat × Nat}, p.2 = 0 → eu k p = p
  | 0, _, _ => rfl
  | k + 1, p, h => by
    show eu k (if 0 < p.2 then (p.2, p.1 % p.2) else p) = p
    rw [if_neg (by omega)]
    exact eu_stay k h
theorem eu_zero : ∀ (k : Nat) (a b : Nat), b < a → (b < fibo k ∨ a < fibo (k + 1)) → (eu k (a, b)).2 = 0
  | 0, a, b, h, q => by
    show b = 0
    rcases q with q | q
    · have : b < 1 := q
      omega
    · have : a < 2 := q
      omega
  | k + 1, a, b, h, q => by
    show (eu k (if 0 < b then (b, a % b) else (a, b))).2 = 0
    by_cases hb : 0 < b
    · rw [if_pos hb]
      have hm := Nat.mod_lt a hb
      refine eu_zero k b (a % b) hm ?_
      rcases q with q | q
      · exact .inr q
      · have e : fibo (k + 1 + 1) = fibo (k + 1) + fibo k := rfl
        rw [e] at q
        have d := Nat.div_add_mod a b
        have d1 : 1 ≤ a / b := (Nat.one_le_div_iff hb).mpr (by omega)
        have d2 := Nat.mul_le_mul_left b d1
        rw [Nat.mul_one] at d2
        by_cases r : b < fibo (k + 1)
        · exact .inr r
        · exact .inl (by omega)
    · rw [if_neg hb, eu_stay k (show (a, b).2 = 0 by show b = 0; omega)]
      show b = 0
      omega
/-- within k + 1 laps the greatest common divisor is reached -/
theorem eu_end {k a b : Nat} (ha : a < fibo k) (hb : b < fibo k) : eu (k + 1) (a, b) = (Nat.gcd a b, 0) := by
  have z : (eu (k + 1) (a, b)).2 = 0 := by
    show (eu k (if 0 < b then (b, a % b) else (a, b))).2 = 0
    by_cases h : 0 < b
    · rw [if_pos h]
      exact eu_zero k b (a % b) (Nat.mod_lt a h) (.inl (Nat.lt_of_le_of_lt (Nat.mod_le a b) ha))
    · rw [if_neg h, eu_stay k (show (a, b).2 = 0 by show b = 0; omega)]
      show b = 0
      omega
  have g := eu_gcd (k + 1) (a, b)
  rw [z, Nat.gcd_zero_right] at g
  exact Prod.ext g z
theorem eu_more {k m : Nat} {p : Nat × Nat} : eu (k + m) p = eu m (eu k p) := by
  induction k generalizing p with
  | zero => rw [Nat.zero_add]; rfl
  | succ k ih =>
    rw [Nat.succ_add]
    show eu (k + m) _ = eu m (eu k _)
    exact ih
theorem eu_last {k m a b : Nat} (ha : a < fibo k) (hb : b < fibo k) (h : k + 1 ≤ m) : eu m (a, b) = (Nat.gcd a b, 0) := by
  have e : m = (k + 1) + (m - (k + 1)) := by omega
  rw [e, eu_more, eu_end ha hb]
  exact eu_stay _ rfl
theorem fibo_pos : ∀ k, 0 < fibo k
  | 0 => by decide
  | 1 => by decide
  | k + 2 => by
    have := fibo_pos k
    show 0 < fibo (k + 1) + fibo k
    omega
/-- fibo (k + m + 1) is at least the product -/
theorem fibo_mul : ∀ (k m : Nat), fibo k * fibo m ≤ fibo (k + m + 1)
  | 0, m => by
    have e : fibo (0 + m + 1) = fibo (m + 1) := by rw [Nat.zero_add]
    rw [e]
    show 1 * fibo m ≤ _
    cases m with
    | zero => decide
    | succ m =>
      have e2 : fibo (m + 1 + 1) = fibo (m + 1) + fibo m := rfl
      omega
  | 1, m => by
    have e : fibo (1 + m + 1) = fibo (m + 1) + fibo m := by rw [Nat.add_comm 1 m]; rfl
    rw [e]
    show 2 * fibo m ≤ _
    cases m with
    | zero => decide
    | succ m =>
      have e2 : fibo (m + 1 + 1) = fibo (m + 1) + fibo m := rfl
      have e3 : fibo (m + 1) ≤ fibo m + fibo m := by
        cases m with
        | zero => decide
        | succ j =>
          have e4 : fibo (j + 1 + 1) = fibo (j + 1) + fibo j := rfl
          have e5 : fibo j ≤ fibo (j + 1) := by
            cases j with
            | zero => decide
            | succ i =>
              have e6 : fibo (i + 1 + 1) = fibo (i + 1) + fibo i := rfl
              omega
          omega
      omega
  | k + 2, m => by
    have e : fibo (k + 2 + m + 1) = fibo (k + 1 + m + 1) + fibo (k + m + 1) := by
      rw [show k + 2 + m + 1 = (k + m + 1) + 2 by omega, show k + 1 + m + 1 = (k + m + 1) + 1 by omega]
      rfl
    rw [e, show fibo (k + 2) = fibo (k + 1) + fibo k from rfl, Nat.add_mul]
    exact Nat.add_le_add (fibo_mul (k + 1) m) (fibo_mul k m)
end Dd
set_option Elab.async false
set_option linter.all false
set_option maxRecDepth 100000
set_option maxHeartbeats 4000000
set_option exponentiation.threshold 20000
namespace Dd
def fibP : Nat → Nat × Nat
  | 0 => (1, 2)
  | k + 1 => ((fibP k).2, (fibP k).2 + (fibP k).1)
theorem fibP_is : ∀ k, fibP k = (fibo k, fibo (k + 1))
  | 0 => rfl
  | k + 1 => by
    show ((fibP k).2, (fibP k).2 + (fibP k).1) = _
    rw [fibP_is k]
    rfl
/-- a block of fifty figures -/
theorem fibo_50 : 10 ^ 50 ≤ fibo 248 := by
  have e : (fibP 248).1 = fibo 248 := by rw [fibP_is]
  rw [← e]
  decide +kernel
theorem fibo_blocks : ∀ b : Nat, (10 ^ 50) ^ (b + 1) ≤ fibo (249 * b + 248)
  | 0 => by
    rw [Nat.zero_add, Nat.pow_one]
    exact fibo_50
  | b + 1 => by
    have h := Nat.mul_le_mul (fibo_blocks b) fibo_50
    have h2 := fibo_mul (249 * b + 248) 248
    rw [Nat.pow_succ]
    rw [show 249 * (b + 1) + 248 = 249 * b + 248 + 248 + 1 by omega]
    exact Nat.le_trans h h2
/-- the laps that `shared` counts are enough -/
theorem laps_ok {b x y m : Nat} (hx : x < (10 ^ 50) ^ b) (hy : y < (10 ^ 50) ^ b) (hm : 9 + 250 * b ≤ m) : eu m (x, y) = (Nat.gcd x y, 0) := by
  cases b with
  | zero =>
    rw [Nat.pow_zero] at hx hy
    have ex : x = 0 := by omega
    have ey : y = 0 := by omega
    subst ex ey
    exact eu_stay m rfl
  | succ b => exact eu_last (k := 249 * b + 248) (Nat.lt_of_lt_of_le hx (fibo_blocks b)) (Nat.lt_of_lt_of_le hy (fibo_blocks b)) (by omega)
end Dd
set_option Elab.async false
set_option linter.all false
set_option maxRecDepth 100000
set_option maxHeartbeats 4000000
set_option exponentiation.threshold 20000
namespace K5
open PySem PySem.Spec PyProof.Rows L2 Gd Rl
open Pg (Mo)
open Dd (eu)
abbrev sSh : Stmt := top 28
structure BlM (mg : Str → Option Value) : Prop where
  max : mg "max" = none
def spSh : Sp := fun vs H Q _ => ∃ x y : Int, vs = [.int x, .int y] ∧ x.natAbs < 10 ^ 1000 ∧ y.natAbs < 10 ^ 1000 ∧ Q (.int (Nat.gcd x.natAbs y.natAbs : Nat)) H
abbrev nSh : List Str := ["_law_one_here", "_law_two", "_law_rest", "_law_laps", "_law_block", "_law_turn"]
theorem scSh : FnScope nSh ["_law_one_here", "_law_two"] (defScope sSh) := ⟨rfl, rfl, rfl, by decide +kernel, rfl, by decide +kernel, by decide +kernel⟩
section
variable {P : Program} {w : World} {K : PySem.W.Frag} {mg : Str → Option Value} {base : Heap} {f : Addr} {fd : FuncData}
theorem ok_shared (F : FnP K "_law_shared" sSh f fd) (T : Bl mg) (M : Mo mg) (U : BlM mg) : FnOk P w K mg base CX0 1 f fd ["_law_one_here", "_law_two"] spSh := by
  refine F.ok scSh (fun vs H Q E h => ?_) (fun cdv A outer s H vs Q E hr h => ?_)
  · obtain ⟨x, y, rfl, _⟩ := h
    rfl
  · obtain ⟨x, y, rfl, hx, hy, k⟩ := h
    refine ⟨_, PSs.nox <| pss_cons (ps_par (by rfl) scSh.nd (i := 2) (j := 3) rfl rfl (by decide) rfl rfl (pa_cons (pe_callB (call_max2 rfl) (by rfl) U.max (by decide +kernel) (pa_cons (pe_callB call_abs (by rfl) T.abs (by decide +kernel) (pa_cons (pv 0) pa_nil)) (pa_cons (pe_callB call_abs (by rfl) T.abs (by decide +kernel) (pa_cons (pv 1) pa_nil)) pa_nil))) (pa_cons pe_int pa_nil)) (by rfl))
      <| pss_cons (ps_for PassesOwn.never rfl (pi_range1 (by rfl) M.range (pa_cons pe_int pa_nil)) (pg_name (i := 4) scSh.nd rfl (.inl rfl))
        (pss_one (ps_if (pt_cmpR op_gt (pv 2) pe_int (nomark _)) (pss_one (ps_par (by rfl) scSh.nd (i := 3) (j := 2) rfl rfl (by decide) rfl rfl (pa_cons (pe_op op_add (pv 3) pe_int) (pa_cons (pe_op op_fdivW (pv 2) (pe_op op_pow pe_int pe_int)) pa_nil)) (by rfl))) pss_nil)))
      <| pss_cons (ps_par (by rfl) scSh.nd (i := 0) (j := 1) rfl rfl (by decide) rfl rfl (pa_cons (pe_callB call_abs (by rfl) T.abs (by decide +kernel) (pa_cons (pv 0) pa_nil)) (pa_cons (pe_callB call_abs (by rfl) T.abs (by decide +kernel) (pa_cons (pv 1) pa_nil)) pa_nil)) (by rfl))
      <| pss_cons (ps_for PassesOwn.never rfl (pi_range1 (by rfl) M.range (pa_cons (pv 3) pa_nil)) (pg_name (i := 5) scSh.nd rfl (.inl rfl))
        (pss_one (ps_if (pt_cmpR op_gt (pv 1) pe_int (nomark _)) (pss_one (ps_par (by rfl) scSh.nd (i := 0) (j := 1) rfl rfl (by decide) rfl rfl (pa_cons (pv 1) (pa_cons (pe_op op_mod (pe_callTy call_int1 (by rfl) T.int (by decide +kernel) (pa_cons (pv 0) pa_nil)) (pv 1)) pa_nil)) (by rfl))) pss_nil)))
      <| pss_one (ps_ret (pv 0)), ?_⟩
    have ab : ∀ z : Int, (if z < 0 then -z else z) = (z.natAbs : Int) := fun z => by split <;> omega
    refine ⟨_, rfl, _, rfl, _, rfl, _, rfl, _, _, rfl, _, _, rfl, ?_⟩
    rw [ab, ab]
    obtain ⟨N, hN, hx2, hy2, hN2⟩ : ∃ N : Nat, (if (y.natAbs : Int) > (x.natAbs : Int) then (y.natAbs : Int) else (x.natAbs : Int)) = (N : Int) ∧ x.natAbs ≤ N ∧ y.natAbs ≤ N ∧ N < 10 ^ 1000 := by
      by_cases q : (y.natAbs : Int) > (x.natAbs : Int)
      · exact ⟨y.natAbs, if_pos q, by omega, Nat.le_refl _, hy⟩
      · exact ⟨x.natAbs, if_neg q, Nat.le_refl _, by omega, hx⟩
    rw [hN]
    refine ⟨200, rfl, by decide, by decide, for_range (n := 200) (fun i σ H' => H' = H ∧ ∃ (b : Nat) (c : Option V), σ = [some (.int x), some (.int y), some (.int ((N / (10 ^ 50) ^ b : Nat) : Int)), some (.int ((9 + 250 * b : Nat) : Int)), c, none] ∧ b ≤ i ∧ (b = i ∨ N / (10 ^ 50) ^ b = 0)) ⟨rfl, 0, none, by rw [Nat.pow_zero, Nat.div_one]; rfl, Nat.le_refl _, .inl rfl⟩ ?_ ?_⟩
    · rintro i σ H2 hi ⟨rfl, b, c, rfl, bi, bq⟩
      refine ⟨_, rfl, _, _, rfl, rfl, _, rfl, ?_⟩
      refine ite2 (fun hc => ?_) (fun hc => ?_)
      · have hp : 0 < N / (10 ^ 50) ^ b := by
          have := of_decide_eq_true hc
          omega
        have be : b = i := bq.resolve_right fun q => by rw [q] at hp; exact absurd hp (Nat.lt_irrefl 0)
        refine ⟨_, rfl, _, _, rfl, rfl, _, rfl, _, _, rfl, rfl, ?_, _, _, rfl, rfl, ?_, _, _, rfl, ?_⟩
        · exact ⟨by decide, by decide⟩
        · exact wide_div (b := 170) (by decide) (by decide) (by decide) (by decide)
        · have e1 : ((N / (10 ^ 50) ^ b : Nat) : Int) / (10 ^ Int.toNat 50) = ((N / (10 ^ 50) ^ (b + 1) : Nat) : Int) := by
            show ((N / (10 ^ 50) ^ b : Nat) : Int) / ((10 ^ 50 : Nat) : Int) = _
            rw [← Int.natCast_ediv, Nat.div_div_eq_div_mul]
            exact congrArg (fun z : Nat => ((N / z : Nat) : Int)) (show (10 ^ 50) ^ b * 10 ^ 50 = (10 ^ 50) ^ (b + 1) from (Nat.pow_succ ..).symm)
          have e2 : ((9 + 250 * b : Nat) : Int) + 250 = ((9 + 250 * (b + 1) : Nat) : Int) := by
            clear hx hy hN2 hp hc bq e1
            omega
          exact ⟨rfl, b + 1, some (.int (0 + (i : Int))), by rw [← e1, ← e2]; rfl, by rw [be]; exact Nat.le_refl _, .inl (by rw [be])⟩
      · exact ⟨rfl, b, _, rfl, Nat.le_succ_of_le bi, .inr (Nat.eq_zero_of_not_pos fun q => hc (decide_eq_true (Int.ofNat_lt.mpr q)))⟩
    · rintro σ H2 ⟨rfl, b, c, rfl, bi, bq⟩
      have hb : N < (10 ^ 50) ^ b := by
        rcases bq with rfl | q
        · exact Nat.lt_of_lt_of_le hN2 (by rw [← Nat.pow_mul]; exact Nat.pow_le_pow_right (by decide) (by decide))
        · exact (Nat.div_eq_zero_iff_lt (Nat.pow_pos (by decide))).mp q
      refine ⟨_, rfl, _, rfl, _, rfl, _, rfl, _, _, rfl, ?_⟩
      rw [ab, ab]
      refine ⟨_, rfl, _, rfl, Int.natCast_nonneg _, ?_, for_range (n := 9 + 250 * b) (fun i σ H' => H' = H2 ∧ ∃ (r l c1 c2 : Option V), σ = [some (.int ((eu i (x.natAbs, y.natAbs)).1 : Nat)), some (.int ((eu i (x.natAbs, y.natAbs)).2 : Nat)), r, l, c1, c2]) ⟨rfl, _, _, _, _, rfl⟩ ?_ ?_⟩
      · clear hb hN2 hx hy bq
        have h9 : ((9 + 250 * b : Nat) : Int) ≤ ((60000 : Nat) : Int) := Int.ofNat_le.mpr (by omega)
        exact Int.lt_of_le_of_lt h9 (by decide)
      · rintro i σ H3 hi ⟨rfl, r, l, c1, c2, rfl⟩
        have st : eu (i + 1) (x.natAbs, y.natAbs) = eu 1 (eu i (x.natAbs, y.natAbs)) := Dd.eu_more (k := i) (m := 1)
        rw [st]
        generalize eu i (x.natAbs, y.natAbs) = p
        refine ⟨_, rfl, _, _, rfl, rfl, _, rfl, ?_⟩
        refine ite2 (fun hc => ?_) (fun hc => ?_)
        · have hp : 0 < p.2 := by
            have := of_decide_eq_true hc
            omega
          have e : eu 1 p = (p.2, p.1 % p.2) := by
            show (if 0 < p.2 then (p.2, p.1 % p.2) else p) = _
            rw [if_pos hp]
          rw [e]
          refine ⟨_, rfl, _, rfl, .inl ⟨_, rfl, _, rfl, _, _, rfl, rfl, by omega, _, _, rfl, rfl, _, _, _, _, rfl⟩⟩
        · have hp : p.2 = 0 := by
            have : ¬ (0 : Int) < (p.2 : Int) := fun q => hc (decide_eq_true q)
            omega
          rw [Dd.eu_stay 1 hp]
          exact ⟨rfl, _, _, _, _, rfl⟩
      · rintro σ H3 ⟨rfl, r, l, c1, c2, rfl⟩
        have e := Dd.laps_ok (Nat.lt_of_le_of_lt hx2 hb) (Nat.lt_of_le_of_lt hy2 hb) (Nat.le_refl _)
        refine ⟨_, rfl, ?_⟩
        rw [e]
        exact k
end
end K5
set_option Elab.async false
set_option linter.all false
set_option maxRecDepth 100000
set_option maxHeartbeats 4000000
set_option exponentiation.threshold 20000
namespace Dd
open Rl Pg
/-! ### the sizes of a box -/
theorem dot4 (a b c d x y z w : Int) : dot [a, b, c, d] [x, y, z, w] = a * x + b * y + c * z + d * w := by
  show ((List.range 4).map fun i => [a, b, c, d].getD i 0 * [x, y, z, w].getD i 0).sum = _
  show a * x + (b * y + (c * z + (d * w + 0))) = _
  omega
theorem dot3 (a b c x y z : Int) : dot [a, b, c] [x, y, z] = a * x + b * y + c * z := by
  show a * x + (b * y + (c * z + 0)) = _
  omega
theorem dot2 (a b x y : Int) : dot [a, b] [x, y] = a * x + b * y := by
  show a * x + (b * y + 0) = _
  omega
theorem lst_okC {n : Nat} {ts : List (List Int)} {g : List Int} {B : Nat → Nat} (n2 : 2 ≤ n) (n4 : n ≤ 4) (lt : Ln n ts) (lg : g.length = n) (b4 : Bds 400 ts) (bg : Bd 400 g) (tl : ts.length ≤ 9)
    (hB : ∀ i, i ≤ ts.length + 1 → Bds (B i) (stF n (allT n ts) i).ls ∧ Bds (B i) (stF n (allT n ts) i).fs) (s1 : ∀ i, i ≤ ts.length → B i ≤ 4000) (s2 : B (ts.length + 1) ≤ 8600) : LstOk n ts g := by
  have run := all_runB (m := fun _ => 400) n4 lt fun i c e => b4 c (List.mem_of_getElem? e)
  have al : (allT n ts).length = ts.length + 1 := rfl
  obtain ⟨I, _, _, l1, l2⟩ := run (ts.length + 1) (by omega)
  obtain ⟨b1, b2⟩ := hB (ts.length + 1) (Nat.le_refl _)
  have p10 : 2 ^ (ts.length + 1) ≤ 1024 := Nat.pow_le_pow_right (by decide) (by omega : ts.length + 1 ≤ 10)
  refine ⟨n2, n4, lt, lg, b4, bg, by omega, ⟨I.ll, fun i hi => ?_, fun i t e => ?_, by omega, by omega⟩, fun a ha => ?_, fun a ha => ?_, ?_⟩
  · obtain ⟨J, _, _, k1, k2⟩ := run i (by omega)
    obtain ⟨c1, c2⟩ := hB i (by omega)
    have p9 : 2 ^ i ≤ 512 := Nat.pow_le_pow_right (by decide) (by omega : i ≤ 9)
    have b9 := s1 i (by omega)
    exact ⟨by omega, by omega, J.ll, J.lf, fun l hl => Bd.mono b9 (c1 l hl), fun l hl => Bd.mono b9 (c2 l hl)⟩
  · exact inv_ok (run i (by have := (List.getElem?_eq_some_iff.mp e).1; omega)).1
  · rcases List.mem_append.mp ha with ha | ha
    · rcases List.mem_append.mp ha with ha | ha
      · exact I.lf a ha
      · exact I.ll a ha
    · obtain ⟨l, hl, rfl⟩ := List.mem_map.mp ha
      rw [neg_len]
      exact I.ll l hl
  · rcases List.mem_append.mp ha with ha | ha
    · rcases List.mem_append.mp ha with ha | ha
      · exact Bd.mono s2 (b2 a ha)
      · exact Bd.mono s2 (b1 a ha)
    · obtain ⟨l, hl, rfl⟩ := List.mem_map.mp ha
      exact neg_bd (Bd.mono s2 (b1 l hl))
  · unfold arrF
    rw [List.length_append, List.length_append, List.length_map]
    omega
/-- brought to the level by a unit: the bits are added, not doubled -/
theorem lev_unit {a u t : List Int} {b m : Nat} (ha : Bd b a) (hu : Bd 1 u) (ht : Bd m t) (hi : dot t u = 1) (l1 : a.length = u.length) (l2 : t.length = u.length) (l4 : u.length ≤ 4) : Bd (b + m + 4) (levF a u t) := by
  unfold levF
  refine low_bd ?_
  rw [hi]
  have c2 := dot_bd ht ha (by omega) (by omega)
  intro z hz
  obtain ⟨i, hi2, rfl⟩ := List.mem_map.mp hz
  have hi3 : i < a.length := List.mem_range.mp hi2
  have h1 := ha _ (getD_mem hi3)
  have h2 := hu _ (getD_mem (show i < u.length by omega))
  have p1 : 2 ^ b ≤ 2 ^ (m + b + 3) := Nat.pow_le_pow_right (by decide) (by omega)
  have p2 : 2 ^ (b + m + 4) = 2 * 2 ^ (m + b + 3) := by rw [show b + m + 4 = (m + b + 3) + 1 by omega, Nat.pow_succ]; omega
  have h3 : (dot t a * u.getD i 0).natAbs ≤ (dot t a).natAbs := by
    rw [Int.natAbs_mul]
    have : (u.getD i 0).natAbs ≤ 1 := by omega
    have := Nat.mul_le_mul_left (dot t a).natAbs this
    omega
  rw [Int.one_mul, p2]
  omega
theorem comb_one (a u : List Int) : combF 1 0 a u = a := by
  refine List.ext_getElem (comb_len ..) fun i h1 h2 => ?_
  have e := comb_getD (hi := 1) (va := 0) (u := u) h2
  rw [List.getD_eq_getElem?_getD, List.getElem?_eq_getElem h1, List.getD_eq_getElem?_getD, List.getElem?_eq_getElem h2] at e
  have e2 : (combF 1 0 a u)[i] = 1 * a[i] - 0 * u.getD i 0 := e
  rw [e2]
  omega
theorem low_unit : ∀ j, j < 4 → lowF (unitF 4 j) = unitF 4 j := by decide
theorem unit_inj : ∀ j, j < 4 → ∀ k, k < 4 → unitF 4 j = unitF 4 k → j = k := by decide
theorem filt_one {L : List Nat} {k : Nat} (hn : L.Nodup) (h : k ∈ L) : L.filter (fun j => decide (j = k)) = [k] := by
  induction L with
  | nil => cases h
  | cons a L ih =>
    obtain ⟨h1, h2⟩ := List.nodup_cons.mp hn
    rw [List.filter_cons]
    rcases List.mem_cons.mp h with rfl | h
    · rw [if_pos (by simp)]
      congr 1
      refine List.filter_eq_nil_iff.mpr fun j hj e => ?_
      have : j = k := of_decide_eq_true e
      rw [this] at hj
      exact h1 hj
    · have : a ≠ k := fun e => h1 (by rw [e]; exact h)
      rw [if_neg (by simp [this]), ih h2 h]
theorem unit_next {s : St} (I : Inv 4 s) {L : List Nat} {k : Nat} (hk : k < 4) (hL : s.ls = L.map (unitF 4)) (hn : L.Nodup) (lL : ∀ j ∈ L, j < 4) {t : List Int} (lt : t.length = 4) (tk : t.getD k 0 = 1 ∨ t.getD k 0 = -1) (tz : ∀ j ∈ L, j ≠ k → t.getD j 0 = 0) {b m : Nat} (hb : 1 ≤ b) (hf : Bds b s.fs) (ht : Bd m t) :
    (s.next t).ls = (L.filter fun j => !decide (j = k)).map (unitF 4) ∧ (k ∈ L → Bds (b + m + 4) (s.next t).fs) ∧ (k ∉ L → Bds (2 * b + m + 4) (s.next t).fs) := by
  have ud : ∀ j, j < 4 → dot t (unitF 4 j) = t.getD j 0 := fun j hj => unit_dot hj
  have ac : acrF s.ls t = (L.filter fun j => decide (j = k)).map (unitF 4) := by
    unfold acrF
    rw [hL, List.filter_map]
    congr 1
    refine List.filter_congr fun j hj => ?_
    show (!decide (dot t (unitF 4 j) = 0)) = decide (j = k)
    rw [ud j (lL j hj)]
    by_cases q : j = k
    · rw [decide_eq_true q, q]
      rcases tk with e | e <;> rw [e] <;> rfl
    · rw [decide_eq_false q, tz j hj q]
      rfl
  have b1 : Bds b s.ls := fun l hl => by
    rw [hL] at hl
    obtain ⟨j, _, rfl⟩ := List.mem_map.mp hl
    exact Bd.mono hb (unit_bd 4 j)
  by_cases hm : k ∈ L
  · rw [filt_one hn hm] at ac
    have ac1 : acrF s.ls t = [unitF 4 k] := ac
    have e1 : (s.next t).ls = lvlL s.ls (unitF 4 k) t := by show cutL s.ls t = _; unfold cutL; rw [ac1]
    have e2 : (s.next t).fs = lvlA s.fs (unitF 4 k) t := by show cutF s.ls s.fs s.ds t = _; unfold cutF; rw [ac1]
    have u0 : dot t (unitF 4 k) ≠ 0 := by
      rw [ud k hk]
      omega
    have hu : dot t (upF (unitF 4 k) t) = 1 := by
      unfold upF
      rw [ud k hk]
      rcases tk with e | e
      · rw [e, if_neg (by decide), ud k hk, e]
      · rw [e, if_pos (by decide), dot_neg, ud k hk, e]
        rfl
    have bu : Bd 1 (upF (unitF 4 k) t) := up_bd (unit_bd 4 k)
    have lu : (upF (unitF 4 k) t).length = 4 := by rw [up_len, unit_len]
    refine ⟨?_, fun _ => ?_, fun q => absurd hm q⟩
    · rw [e1]
      unfold lvlL
      rw [hL, List.filter_map, List.map_map]
      have fe : L.filter ((fun l => !decide (l = unitF 4 k)) ∘ unitF 4) = L.filter fun j => !decide (j = k) := List.filter_congr fun j hj => by
        show (!decide (unitF 4 j = unitF 4 k)) = !decide (j = k)
        congr 1
        exact decide_eq_decide.mpr ⟨unit_inj j (lL j hj) k hk, fun e => by rw [e]⟩
      rw [fe]
      refine List.map_congr_left fun j hj => ?_
      obtain ⟨h1, h2⟩ := List.mem_filter.mp hj
      have jk : j ≠ k := fun e => by
        rw [decide_eq_true e] at h2
        cases h2
      show levF (unitF 4 j) (upF (unitF 4 k) t) t = unitF 4 j
      unfold levF
      rw [hu, ud j (lL j h1), tz j h1 jk, comb_one, low_unit j (lL j h1)]
    · rw [e2]
      intro f hf2
      rcases List.mem_append.mp hf2 with h | h
      · obtain ⟨g, hg, rfl⟩ := List.mem_map.mp h
        exact lev_unit (hf g hg) bu ht hu (by rw [I.lf g hg, lu]) (by rw [lt, lu]) (by omega)
      · rw [List.mem_singleton.mp h]
        exact Bd.mono (by omega) bu
  · have ac1 : acrF s.ls t = [] := by
      rw [ac, List.filter_eq_nil_iff.mpr fun j hj e => hm (by rw [← of_decide_eq_true e]; exact hj)]
      rfl
    have e1 : (s.next t).ls = s.ls := by show cutL s.ls t = _; unfold cutL; rw [ac1]
    refine ⟨?_, fun q => absurd q hm, fun _ => (bd_next I lt (by decide) b1 hf ht).2⟩
    rw [e1, hL]
    congr 1
    refine (List.filter_eq_self.mpr fun j hj => ?_).symm
    rw [decide_eq_false fun e => hm (by rw [← e]; exact hj)]
    rfl
end Dd
set_option Elab.async false
set_option linter.all false
set_option maxRecDepth 100000
set_option maxHeartbeats 4000000
set_option exponentiation.threshold 20000
namespace Dd
open Rl Pg
def lnK (ks : List Nat) : Nat → List Nat
  | 0 => [0, 1, 2, 3]
  | i + 1 => (lnK ks i).filter fun j => !decide (j = (3 :: ks).getD i 0)
def bdK (ks : List Nat) : Nat → Nat
  | 0 => 1
  | i + 1 => if (3 :: ks).getD i 0 ∈ lnK ks i then bdK ks i + 92 + 4 else 2 * bdK ks i + 92 + 4
theorem bdK_pos (ks : List Nat) : ∀ i, 1 ≤ bdK ks i
  | 0 => Nat.le_refl _
  | i + 1 => by
    unfold bdK
    split <;> omega
theorem lnK_ok (ks : List Nat) : ∀ i, (lnK ks i).Nodup ∧ ∀ j ∈ lnK ks i, j < 4
  | 0 => by
    show ([0, 1, 2, 3] : List Nat).Nodup ∧ ∀ j ∈ ([0, 1, 2, 3] : List Nat), j < 4
    decide
  | i + 1 => ⟨(lnK_ok ks i).1.filter _, fun j hj => (lnK_ok ks i).2 j (List.mem_filter.mp hj).1⟩
structure BoxT (ks : List Nat) (i : Nat) (c : List Int) : Prop where
  l : c.length = 4
  b : Bd 92 c
  k : (3 :: ks).getD i 0 < 4
  one : c.getD ((3 :: ks).getD i 0) 0 = 1 ∨ c.getD ((3 :: ks).getD i 0) 0 = -1
  z : ∀ j ∈ lnK ks i, j ≠ (3 :: ks).getD i 0 → c.getD j 0 = 0
theorem box_run {ts : List (List Int)} {ks : List Nat} (hT : ∀ i c, (allT 4 ts)[i]? = some c → BoxT ks i c) : ∀ i, i ≤ (allT 4 ts).length → Inv 4 (stF 4 (allT 4 ts) i) ∧ (stF 4 (allT 4 ts) i).ls = (lnK ks i).map (unitF 4) ∧ Bds (bdK ks i) (stF 4 (allT 4 ts) i).fs
  | 0, _ => by
    refine ⟨inv_zero 4, rfl, fun f hf => ?_⟩
    cases (show f ∈ ([] : List (List Int)) from hf)
  | i + 1, h => by
    obtain ⟨I, hl, hf⟩ := box_run hT i (by omega)
    have e : (allT 4 ts)[i]? = some (allT 4 ts)[i] := List.getElem?_eq_getElem (by omega)
    have B := hT i _ e
    obtain ⟨hn, hj⟩ := lnK_ok ks i
    obtain ⟨c1, c2, c3⟩ := unit_next I B.k hl hn hj B.l B.one B.z (bdK_pos ks i) hf B.b
    rw [st_succ e]
    refine ⟨inv_next I B.l, c1, ?_⟩
    unfold bdK
    split
    · next q => exact c2 q
    · next q => exact c3 q
theorem box_bds {ts : List (List Int)} {ks : List Nat} (hT : ∀ i c, (allT 4 ts)[i]? = some c → BoxT ks i c) : ∀ i, i ≤ ts.length + 1 → Bds (bdK ks i) (stF 4 (allT 4 ts) i).ls ∧ Bds (bdK ks i) (stF 4 (allT 4 ts) i).fs := fun i hi => by
  obtain ⟨_, h1, h2⟩ := box_run hT i hi
  refine ⟨fun l hl => ?_, h2⟩
  rw [h1] at hl
  obtain ⟨j, _, rfl⟩ := List.mem_map.mp hl
  exact Bd.mono (bdK_pos ks i) (unit_bd 4 j)
theorem bdK_mono (ks : List Nat) : ∀ {i j : Nat}, i ≤ j → bdK ks i ≤ bdK ks j
  | i, 0, h => by
    have : i = 0 := by omega
    subst this
    exact Nat.le_refl _
  | i, j + 1, h => by
    rcases Nat.lt_or_ge i (j + 1) with q | q
    · refine Nat.le_trans (bdK_mono ks (show i ≤ j by omega)) ?_
      rw [bdK]
      split <;> omega
    · have : i = j + 1 := by omega
      subst this
      exact Nat.le_refl _
theorem box_ok {ts : List (List Int)} {g : List Int} {ks : List Nat} (hT : ∀ i c, (allT 4 ts)[i]? = some c → BoxT ks i c) (lg : g.length = 4) (bg : Bd 400 g) (tl : ts.length ≤ 9) (s1 : bdK ks ts.length ≤ 4000) (s2 : bdK ks (ts.length + 1) ≤ 8600) : LstOk 4 ts g := by
  have mem : ∀ c ∈ ts, ∃ i, (allT 4 ts)[i]? = some c := fun c hc => by
    obtain ⟨i, hi, rfl⟩ := List.mem_iff_getElem.mp hc
    exact ⟨i + 1, by show ts[i]? = _; rw [List.getElem?_eq_getElem hi]⟩
  refine lst_okC (by decide) (by decide) (fun c hc => ?_) lg (fun c hc => ?_) bg tl (box_bds hT) (fun i hi => Nat.le_trans (bdK_mono ks hi) s1) s2
  · obtain ⟨i, e⟩ := mem c hc
    exact (hT i c e).l
  · obtain ⟨i, e⟩ := mem c hc
    exact Bd.mono (by decide) (hT i c e).b
theorem ks_ok : (bdK [0, 0, 1, 1, 2, 2] 6 ≤ 4000 ∧ bdK [0, 0, 1, 1, 2, 2] 7 ≤ 8600) ∧ (bdK [2, 2, 1, 1, 0, 0] 6 ≤ 4000 ∧ bdK [2, 2, 1, 1, 0, 0] 7 ≤ 8600) ∧ (bdK [0, 0, 1, 1, 2, 2, 0] 7 ≤ 4000 ∧ bdK [0, 0, 1, 1, 2, 2, 0] 8 ≤ 8600) ∧ (bdK [1, 1, 2, 2] 4 ≤ 4000 ∧ bdK [1, 1, 2, 2] 5 ≤ 8600) := by decide
end Dd
set_option Elab.async false
set_option linter.all false
set_option maxRecDepth 100000
set_option maxHeartbeats 4000000
namespace Dd
open Rl Pg
/-! ### a ratio in its least form -/
theorem low2 (p q : Int) : lowF [p, q] = [p / ((Nat.gcd p.natAbs q.natAbs : Nat) : Int), q / ((Nat.gcd p.natAbs q.natAbs : Nat) : Int)] := by
  have e : gcdF [p, q] = Nat.gcd p.natAbs q.natAbs := by
    show Nat.gcd (Nat.gcd 0 p.natAbs) q.natAbs = _
    rw [Nat.gcd_zero_left]
  unfold lowF
  rw [e]
  rfl
theorem mmmc (a b c d : Int) : a * b * (c * d) = a * c * (b * d) := by
  rw [Int.mul_assoc, Int.mul_assoc, Int.mul_left_comm b c d]
theorem cop_eq {p q b a : Nat} (h1 : Nat.Coprime p q) (h2 : Nat.Coprime b a) (h : p * a = b * q) : q = a := by
  have d1 : q ∣ p * a := by
    rw [h]
    exact Nat.dvd_mul_left q b
  have d2 : a ∣ b * q := by
    rw [← h]
    exact Nat.dvd_mul_left a p
  exact Nat.dvd_antisymm (h1.symm.dvd_of_dvd_mul_left d1) (h2.symm.dvd_of_dvd_mul_left d2)
theorem low_ratio {p q b a : Int} (hq : 0 < q) (ha : 0 < a) (h : p * a = b * q) : lowF [p, q] = [b / ((Nat.gcd b.natAbs a.natAbs : Nat) : Int), a / ((Nat.gcd b.natAbs a.natAbs : Nat) : Int)] := by
  rw [low2]
  have g1 : 0 < Nat.gcd p.natAbs q.natAbs := Nat.gcd_pos_of_pos_right _ (by omega)
  have g2 : 0 < Nat.gcd b.natAbs a.natAbs := Nat.gcd_pos_of_pos_right _ (by omega)
  have c1 := Nat.coprime_div_gcd_div_gcd g1
  have c2 := Nat.coprime_div_gcd_div_gcd g2
  have p1 := Nat.mul_div_cancel' (Nat.gcd_dvd_left p.natAbs q.natAbs)
  have q1 := Nat.mul_div_cancel' (Nat.gcd_dvd_right p.natAbs q.natAbs)
  have b1 := Nat.mul_div_cancel' (Nat.gcd_dvd_left b.natAbs a.natAbs)
  have a1 := Nat.mul_div_cancel' (Nat.gcd_dvd_right b.natAbs a.natAbs)
  have pd : ((Nat.gcd p.natAbs q.natAbs : Nat) : Int) ∣ p := Int.ofNat_dvd_left.mpr (Nat.gcd_dvd_left _ _)
  have bd : ((Nat.gcd b.natAbs a.natAbs : Nat) : Int) ∣ b := Int.ofNat_dvd_left.mpr (Nat.gcd_dvd_left _ _)
  have qd : ((Nat.gcd p.natAbs q.natAbs : Nat) : Int) ∣ q := Int.ofNat_dvd_left.mpr (Nat.gcd_dvd_right _ _)
  have ad : ((Nat.gcd b.natAbs a.natAbs : Nat) : Int) ∣ a := Int.ofNat_dvd_left.mpr (Nat.gcd_dvd_right _ _)
  have hn : p.natAbs * a.natAbs = b.natAbs * q.natAbs := by rw [← Int.natAbs_mul, ← Int.natAbs_mul, h]
  generalize Nat.gcd p.natAbs q.natAbs = g at *
  generalize Nat.gcd b.natAbs a.natAbs = k at *
  have hm : p.natAbs / g * (a.natAbs / k) = b.natAbs / k * (q.natAbs / g) := by
    have e1 : (g * (p.natAbs / g)) * (k * (a.natAbs / k)) = (k * (b.natAbs / k)) * (g * (q.natAbs / g)) := by rw [p1, a1, b1, q1, hn]
    have e2 : (g * (p.natAbs / g)) * (k * (a.natAbs / k)) = (g * k) * (p.natAbs / g * (a.natAbs / k)) := Nat.mul_mul_mul_comm ..
    have e3 : (k * (b.natAbs / k)) * (g * (q.natAbs / g)) = (g * k) * (b.natAbs / k * (q.natAbs / g)) := by
      rw [Nat.mul_mul_mul_comm, Nat.mul_comm k g]
    rw [e2, e3] at e1
    exact Nat.eq_of_mul_eq_mul_left (Nat.mul_pos g1 g2) e1
  have qa := cop_eq c1 c2 hm
  have q2 : q / (g : Int) = ((q.natAbs / g : Nat) : Int) := by
    rw [Int.natCast_ediv, Int.natAbs_of_nonneg (Int.le_of_lt hq)]
  have a2 : a / (k : Int) = ((a.natAbs / k : Nat) : Int) := by
    rw [Int.natCast_ediv, Int.natAbs_of_nonneg (Int.le_of_lt ha)]
  have eqa : q / (g : Int) = a / (k : Int) := by rw [q2, a2, qa]
  have pe := Int.mul_ediv_cancel' pd
  have be := Int.mul_ediv_cancel' bd
  have qe := Int.mul_ediv_cancel' qd
  have ae := Int.mul_ediv_cancel' ad
  have epb : p / (g : Int) = b / (k : Int) := by
    have e1 : ((g : Int) * (p / g)) * ((k : Int) * (a / k)) = ((k : Int) * (b / k)) * ((g : Int) * (q / g)) := by rw [pe, ae, be, qe, h]
    have e2 : ((g : Int) * (p / g)) * ((k : Int) * (a / k)) = ((g : Int) * k * (a / k)) * (p / g) := by
      rw [mmmc, Int.mul_comm (p / (g : Int)), ← Int.mul_assoc]
    have e3 : ((k : Int) * (b / k)) * ((g : Int) * (q / g)) = ((g : Int) * k * (a / k)) * (b / k) := by
      rw [mmmc, eqa, Int.mul_comm (k : Int) g, Int.mul_comm (b / (k : Int)), ← Int.mul_assoc]
    rw [e2, e3] at e1
    refine Int.eq_of_mul_eq_mul_left ?_ e1
    have ha2 : (0 : Int) < a / k := by
      rcases Int.lt_or_le 0 (a / (k : Int)) with r | r
      · exact r
      · have := Int.mul_le_mul_of_nonneg_left r (show (0 : Int) ≤ (k : Int) by omega)
        rw [ae, Int.mul_zero] at this
        omega
    exact Int.ne_of_gt (Int.mul_pos (Int.mul_pos (by omega) (by omega)) ha2)
  rw [eqa, epb]
end Dd
set_option Elab.async false
set_option linter.all false
set_option maxRecDepth 100000
set_option maxHeartbeats 4000000
namespace Dd
open Rl Pg
section
variable {n : Nat} {ts : List (List Int)}
/-- the answer from a place and a bound -/
theorem ans_val (n1 : 1 ≤ n) (lt : Ln n ts) {g y : List Int} {a b : Int} (lg : g.length = n) (ha : 0 < a) (hy : In n ts y) (y0 : 0 < lastI y) (ey : a * dot g y = b * lastI y) (low : ∀ x, In n ts x → b * lastI x ≤ a * dot g x) :
    reachF (arrF n ts) = true ∧ endF (arrF n ts) g = [] ∧ lowF (bestF (valsF (arrF n ts) g)) = [b / ((Nat.gcd b.natAbs a.natAbs : Nat) : Int), a / ((Nat.gcd b.natAbs a.natAbs : Nat) : Int)] := by
  have h1 : reachF (arrF n ts) = true := (reach_iff n1 lt).mpr ⟨y, hy, y0⟩
  have h2 : endF (arrF n ts) g = [] := Classical.byContradiction fun q => by
    obtain ⟨x, hx, x0, gx⟩ := (end_iff n1 lt lg).mp q
    have := low x hx
    rw [x0, Int.mul_zero] at this
    have := Int.mul_neg_of_pos_of_neg ha gx
    omega
  obtain ⟨p, q, e, q0, ⟨c, hc, ec1, ec2⟩, m⟩ := least_is n1 lt lg h1 h2
  have m1 := low c hc
  rw [ec1, ec2] at m1
  have m2 := m y hy
  have m3 := Int.mul_le_mul_of_nonneg_left m2 (Int.le_of_lt ha)
  have e1 : a * (p * lastI y) = (p * a) * lastI y := by rw [← Int.mul_assoc, Int.mul_comm a p]
  have e2 : a * (dot g y * q) = (b * q) * lastI y := by
    rw [← Int.mul_assoc, ey, Int.mul_assoc, Int.mul_comm (lastI y) q, ← Int.mul_assoc]
  rw [e1, e2] at m3
  have m4 := Int.le_of_mul_le_mul_right m3 y0
  rw [Int.mul_comm a p] at m1
  refine ⟨h1, h2, ?_⟩
  rw [e]
  exact low_ratio q0 ha (by omega)
end
/-- a box of three: each between low and high -/
def boxF (l0 h0 l1 h1 l2 h2 : Int) : List (List Int) := [[1, 0, 0, -l0], [-1, 0, 0, h0], [0, 1, 0, -l1], [0, -1, 0, h1], [0, 0, 1, -l2], [0, 0, -1, h2]]
theorem in4 {ts : List (List Int)} {x : List Int} (h : In 4 ts x) : ∃ a b c d : Int, x = [a, b, c, d] ∧ lastI x = d := by
  match x, h.l with
  | [a, b, c, d], _ => exact ⟨a, b, c, d, rfl, rfl⟩
theorem mem_rev {α : Type} {l : List α} {a : α} : a ∈ l.reverse ↔ a ∈ l := List.mem_reverse
/-- what the box says of a place, whatever the order of its tests -/
theorem box_in {ts : List (List Int)} {l0 h0 l1 h1 l2 h2 a b c d : Int} (sub : ∀ t ∈ boxF l0 h0 l1 h1 l2 h2, t ∈ ts) (h : In 4 ts [a, b, c, d]) : (l0 * d ≤ a ∧ a ≤ h0 * d) ∧ (l1 * d ≤ b ∧ b ≤ h1 * d) ∧ (l2 * d ≤ c ∧ c ≤ h2 * d) := by
  have t1 := h.t _ (sub [1, 0, 0, -l0] (by simp [boxF]))
  have t2 := h.t _ (sub [-1, 0, 0, h0] (by simp [boxF]))
  have t3 := h.t _ (sub [0, 1, 0, -l1] (by simp [boxF]))
  have t4 := h.t _ (sub [0, -1, 0, h1] (by simp [boxF]))
  have t5 := h.t _ (sub [0, 0, 1, -l2] (by simp [boxF]))
  have t6 := h.t _ (sub [0, 0, -1, h2] (by simp [boxF]))
  rw [dot4] at t1 t2 t3 t4 t5 t6
  rw [Int.neg_mul] at t1 t3 t5
  omega
theorem box_at {ts : List (List Int)} {l0 h0 l1 h1 l2 h2 a b c : Int} (sub : ∀ t ∈ ts, t ∈ boxF l0 h0 l1 h1 l2 h2) (i1 : l0 ≤ a ∧ a ≤ h0) (i2 : l1 ≤ b ∧ b ≤ h1) (i3 : l2 ≤ c ∧ c ≤ h2) : In 4 ts [a, b, c, 1] := by
  refine ⟨rfl, by show (0 : Int) ≤ 1; decide, fun t ht => ?_⟩
  have m := sub t ht
  simp only [boxF, List.mem_cons, List.not_mem_nil, or_false] at m
  rcases m with rfl | rfl | rfl | rfl | rfl | rfl <;> rw [dot4] <;> omega
/-- what is least over one side -/
def endK (g l h : Int) : Int := g * (if g > 0 then l else h)
theorem end_le {g l h a d : Int} (i : l * d ≤ a ∧ a ≤ h * d) : endK g l h * d ≤ g * a := by
  unfold endK
  by_cases q : g > 0
  · rw [if_pos q, Int.mul_assoc]
    exact Int.mul_le_mul_of_nonneg_left i.1 (by omega)
  · rw [if_neg q, Int.mul_assoc]
    have := Int.mul_le_mul_of_nonneg_left i.2 (show 0 ≤ -g by omega)
    rw [Int.neg_mul, Int.neg_mul] at this
    omega
theorem end_is {g l h : Int} : endK g l h = g * (if g > 0 then l else h) := rfl
theorem box_ans {ts : List (List Int)} {l0 h0 l1 h1 l2 h2 g0 g1 g2 g3 : Int} (lt : Ln 4 ts) (sub : ∀ t ∈ ts, t ∈ boxF l0 h0 l1 h1 l2 h2) (sup : ∀ t ∈ boxF l0 h0 l1 h1 l2 h2, t ∈ ts) (w0 : l0 ≤ h0) (w1 : l1 ≤ h1) (w2 : l2 ≤ h2) :
    reachF (arrF 4 ts) = true ∧ endF (arrF 4 ts) [g0, g1, g2, g3] = [] ∧ lowF (bestF (valsF (arrF 4 ts) [g0, g1, g2, g3])) = [g3 + (endK g0 l0 h0 + (endK g1 l1 h1 + endK g2 l2 h2)), 1] := by
  obtain ⟨r1, r2, r3⟩ := ans_val (a := 1) (b := g3 + (endK g0 l0 h0 + (endK g1 l1 h1 + endK g2 l2 h2))) (g := [g0, g1, g2, g3]) (y := [if g0 > 0 then l0 else h0, if g1 > 0 then l1 else h1, if g2 > 0 then l2 else h2, 1]) (by decide) lt rfl (by decide)
    (box_at sub (by split <;> omega) (by split <;> omega) (by split <;> omega)) (by show (0 : Int) < 1; decide)
    (by
      rw [dot4]
      show 1 * _ = _ * 1
      rw [end_is, end_is, end_is]
      omega) fun x hx => by
      obtain ⟨a, b, c, d, rfl, e⟩ := in4 hx
      obtain ⟨i1, i2, i3⟩ := box_in sup hx
      have j1 := end_le (g := g0) i1
      have j2 := end_le (g := g1) i2
      have j3 := end_le (g := g2) i3
      rw [e, dot4, Int.one_mul, Int.add_mul, Int.add_mul, Int.add_mul]
      omega
  refine ⟨r1, r2, ?_⟩
  rw [r3]
  have g1 : Nat.gcd (g3 + (endK g0 l0 h0 + (endK g1 l1 h1 + endK g2 l2 h2))).natAbs (1 : Int).natAbs = 1 := Nat.gcd_one_right _
  rw [g1]
  show [_ / (1 : Int), (1 : Int) / (1 : Int)] = _
  rw [Int.ediv_one, Int.ediv_one]
end Dd
set_option Elab.async false
set_option linter.all false
set_option maxRecDepth 100000
set_option maxHeartbeats 4000000
namespace K5
open PySem PySem.Spec PyProof.Rows L2 Gd Rl Vd
open Pg (fD Wd2 Wd3 badT fmB lenD getP_at fm_is spLst OutV LstAns LstOk VA Nl nl_same nl_upd nl_del seqT_nl)
open Dd (Bd Bds Ln reachF endF lowF bestF valsF arrF)
/-! ### what is asked of least, by what it is to answer -/
theorem va_vp {K : PySem.W.Frag} {H : Hp} {ys : List V} {ts : List (List Int)} (h : VA K H ys ts) : VpAll K H ys (ts.map fD) := by
  refine vp_dpAll _ (Rl.dp_of (by rw [h.1, List.length_map]) fun i v e => ?_)
  obtain ⟨a, rfl, ha⟩ := h.2 i v e
  have hi : i < ts.length := by rw [← h.1]; exact (List.getElem?_eq_some_iff.mp e).1
  refine ⟨fD (ts.getD i []), ?_, Pg.dp_ints ha⟩
  rw [List.getElem?_map, List.getD_eq_getElem?_getD, List.getElem?_eq_getElem hi]
  rfl
theorem wd2_f (g : List Int) (h : g.length ≤ 1000) : Wd2 (fD g) := fun ds e => by
  have : g.map PyData.int = ds := PyData.tuple.inj e
  subst this
  refine ⟨by rw [List.length_map]; exact h, fun x hx es q => ?_⟩
  obtain ⟨z, _, rfl⟩ := List.mem_map.mp hx
  cases q
theorem wd3_t {ts : List (List Int)} {n : Nat} (lt : Ln n ts) (n4 : n ≤ 4) (tl : ts.length ≤ 9) : Wd3 (.tuple (ts.map fD)) := fun ds e => by
  have : ts.map fD = ds := PyData.tuple.inj e
  subst this
  refine ⟨by rw [List.length_map]; omega, fun x hx => ?_⟩
  obtain ⟨t, ht, rfl⟩ := List.mem_map.mp hx
  exact wd2_f t (by have := lt t ht; omega)
theorem len_fD (g : List Int) : lenD (fD g) = g.length := by
  show (g.map PyData.int).length = _
  rw [List.length_map]
theorem fm_f {g : List Int} {n : Nat} (n2 : 2 ≤ n) (n4 : n ≤ 4) (lg : g.length = n) : fmB (fD g) = true := by
  have hall2 : ∀ m, Pg.intsB m (fD g) = decide (g.length = m) := fun m => by
    show (decide ((g.map PyData.int).length = m) && (g.map PyData.int).all Pg.intB) = _
    rw [List.length_map, show (g.map PyData.int).all Pg.intB = true from List.all_eq_true.mpr fun x hx => by obtain ⟨z, _, rfl⟩ := List.mem_map.mp hx; rfl, Bool.and_true]
  unfold fmB
  rw [hall2, hall2, hall2]
  rcases (show g.length = 2 ∨ g.length = 3 ∨ g.length = 4 by omega) with q | q | q <;> simp [q]
theorem bad_no {ts : List (List Int)} {n : Nat} (lt : Ln n ts) (n2 : 2 ≤ n) (n4 : n ≤ 4) (tl : ts.length ≤ 9) : ∀ i, i < ts.length → badT (ts.map fD) i = false := fun i hi => by
  have at_ : ∀ j, j < ts.length → ∃ t ∈ ts, (ts.map fD).getD j .none = fD t := fun j hj => ⟨ts[j], List.getElem_mem hj, by
    rw [List.getD_eq_getElem?_getD, List.getElem?_map, List.getElem?_eq_getElem hj]
    rfl⟩
  obtain ⟨t, ht, e⟩ := at_ i hi
  obtain ⟨t0, ht0, e0⟩ := at_ 0 (by omega)
  unfold badT
  rw [e, e0, len_fD, len_fD, lt t ht, lt t0 ht0, fm_f n2 n4 (lt t ht), decide_eq_false (by omega : ¬ 9 ≤ i), decide_eq_true (show n = n from rfl)]
  rfl
section
variable {K : PySem.W.Frag} {H : Hp} {CN CF : Addr} {Q : VK} {E : XK} {n : Nat} {ts : List (List Int)} {g : List Int}
theorem lst_ask {a u : Addr} {xs : List V} (hs : SqT K H a xs) (hx : VA K H xs ts) (hu : SqT K H u (g.map V.int)) (ok : LstOk n ts g) (tl : ts.length ≤ 9) (k : LstAns K H n ts g Q) : spLst K CN CF [.ref a, .ref u] H Q E :=
  ⟨.ref a, .ref u, .tuple (ts.map fD), fD g, rfl, .tup hs (va_vp hx), vp_dp _ (Pg.dp_ints hu), wd3_t ok.lt ok.n4 tl, wd2_f g (by have := ok.lg; have := ok.n4; omega), .inr (.inr (.inr ⟨n, ts, g, rfl, rfl, bad_no ok.lt ok.n2 ok.n4 tl, ok, k⟩))⟩
theorem ans_no (h : reachF (arrF n ts) = false) (k : ∀ H', Same H H' → Q .non H') : LstAns K H n ts g Q :=
  ⟨fun _ => k, fun q => (by rw [h] at q; cases q), fun q => (by rw [h] at q; cases q)⟩
theorem ans_end (h : reachF (arrF n ts) = true ∧ endF (arrF n ts) g ≠ []) (k : ∀ H', Same H H' → Q (.str "endless") H') : LstAns K H n ts g Q :=
  ⟨fun q => (by rw [h.1] at q; cases q), fun _ _ => k, fun _ q => absurd q h.2⟩
theorem ans_pair {p q : Int} (h : reachF (arrF n ts) = true ∧ endF (arrF n ts) g = [] ∧ lowF (bestF (valsF (arrF n ts) g)) = [p, q]) (k : ∀ b H', Same H H' → SqT K H' b [.int p, .int q] → Q (.ref b) H') : LstAns K H n ts g Q :=
  ⟨fun r => (by rw [h.1] at r; cases r), fun _ r => absurd h.2.1 r, fun _ _ b H' s hb => k b H' s (by rw [h.2.2] at hb; exact hb)⟩
theorem pl_pair (p q : Int) : PyData.plain (fD [p, q]) = true := Pg.plain_f _
theorem eqv_pair (p q : Int) : PyData.eqv (fD [p, q]) (fD [p, q]) = true := SeqAt.eqv_refl_plain _ (pl_pair p q)
theorem dep_pair (p q : Int) : PyData.depth (fD [p, q]) ≤ 64 := by
  show PyData.depth (.tuple ([p, q].map PyData.int)) ≤ 64
  rw [PyData.depth]
  have := Pg.depth_ints [p, q]
  omega
theorem ne_pair {a b : Addr} {p q : Int} (ha : SqT K H a [.int p, .int q]) (hb : SqT K H b [.int p, .int q]) (k : Q (.bl false) H) : rNeP K (.ref a) (.ref b) H Q :=
  ⟨fD [p, q], fD [p, q], Pg.dp_ints ha, Pg.dp_ints hb, pl_pair p q, pl_pair p q, dep_pair p q, by rw [eqv_pair]; exact k⟩
theorem eq_pair {a b : Addr} {p q : Int} (ha : SqT K H a [.int p, .int q]) (hb : SqT K H b [.int p, .int q]) (k : Q (.bl true) H) : rEqP K (.ref a) (.ref b) H Q :=
  ⟨fD [p, q], fD [p, q], Pg.dp_ints ha, Pg.dp_ints hb, pl_pair p q, pl_pair p q, dep_pair p q, by rw [eqv_pair]; exact k⟩
end
/-! ### the box as the law builds it -/
def uF (k : Nat) : List Int := (List.range 3).map fun (j : Nat) => if decide (V.int (0 + (j : Int)) = V.int (0 + (k : Int))) = true then 1 else 0
def boxG (l w : Nat → Int) (i : Nat) : List (List Int) := (List.range i).flatMap fun k => [uF k ++ [0 - l k], (uF k).map (fun z => 0 - z) ++ [l k + w k]]
theorem boxG_succ (l w : Nat → Int) (i : Nat) : boxG l w (i + 1) = boxG l w i ++ [uF i ++ [0 - l i], (uF i).map (fun z => 0 - z) ++ [l i + w i]] := by
  unfold boxG
  rw [List.range_succ, List.flatMap_append]
  simp
theorem boxG_len (l w : Nat → Int) : ∀ i, (boxG l w i).length = 2 * i
  | 0 => rfl
  | i + 1 => by
    rw [boxG_succ, List.length_append, boxG_len l w i]
    simp
    omega
theorem boxG_is (l w : Nat → Int) : boxG l w 3 = Dd.boxF (l 0) (l 0 + w 0) (l 1) (l 1 + w 1) (l 2) (l 2 + w 2) := by
  show [[1, 0, 0, 0 - l 0], [-1, 0, 0, l 0 + w 0], [0, 1, 0, 0 - l 1], [0, -1, 0, l 1 + w 1], [0, 0, 1, 0 - l 2], [0, 0, -1, l 2 + w 2]] = _
  rw [Int.zero_sub, Int.zero_sub, Int.zero_sub]
  rfl
theorem va_more {K : PySem.W.Frag} {H : Hp} {xs : List V} {gs : List (List Int)} {a b : Addr} {g h : List Int} (hx : VA K H xs gs) (ha : SqT K H a (g.map V.int)) (hb : SqT K H b (h.map V.int)) : VA K H (xs ++ [.ref a, .ref b]) (gs ++ [g, h]) := by
  have e1 : xs ++ [V.ref a, V.ref b] = xs ++ [V.ref a] ++ [V.ref b] := by simp
  have e2 : gs ++ [g, h] = gs ++ [g] ++ [h] := by simp
  rw [e1, e2]
  exact (hx.push ha).push hb
end K5
set_option Elab.async false
set_option linter.all false
set_option maxRecDepth 100000
set_option maxHeartbeats 4000000
namespace Dd
open Rl Pg
/-! ### variables taken away one by one -/
def Hold (rs : List (List Int)) (y : List Int) : Prop := ∀ r ∈ rs, 0 ≤ dot r y
def lowR (rs : List (List Int)) (i : Nat) : List (List Int) := rs.filter fun r => decide (0 < r.getD i 0)
def highR (rs : List (List Int)) (i : Nat) : List (List Int) := rs.filter fun r => decide (r.getD i 0 < 0)
def zeroR (rs : List (List Int)) (i : Nat) : List (List Int) := rs.filter fun r => decide (r.getD i 0 = 0)
def pairF (i : Nat) (r h : List Int) : List Int := combF (r.getD i 0) (h.getD i 0) h r
def woF (rs : List (List Int)) (i : Nat) : List (List Int) := zeroR rs i ++ (lowR rs i).flatMap fun r => (highR rs i).map fun h => pairF i r h
theorem mem_low {rs : List (List Int)} {i : Nat} {r : List Int} : r ∈ lowR rs i ↔ r ∈ rs ∧ 0 < r.getD i 0 := by
  unfold lowR
  rw [List.mem_filter, decide_eq_true_iff]
theorem mem_high {rs : List (List Int)} {i : Nat} {r : List Int} : r ∈ highR rs i ↔ r ∈ rs ∧ r.getD i 0 < 0 := by
  unfold highR
  rw [List.mem_filter, decide_eq_true_iff]
theorem mem_zero {rs : List (List Int)} {i : Nat} {r : List Int} : r ∈ zeroR rs i ↔ r ∈ rs ∧ r.getD i 0 = 0 := by
  unfold zeroR
  rw [List.mem_filter, decide_eq_true_iff]
theorem mem_wo {rs : List (List Int)} {i : Nat} {q : List Int} : q ∈ woF rs i ↔ (q ∈ rs ∧ q.getD i 0 = 0) ∨ ∃ r h, (r ∈ rs ∧ 0 < r.getD i 0) ∧ (h ∈ rs ∧ h.getD i 0 < 0) ∧ q = pairF i r h := by
  unfold woF
  rw [List.mem_append, mem_zero, List.mem_flatMap]
  constructor
  · rintro (h | ⟨r, hr, hq⟩)
    · exact .inl h
    · obtain ⟨h, hh, rfl⟩ := List.mem_map.mp hq
      exact .inr ⟨r, h, mem_low.mp hr, mem_high.mp hh, rfl⟩
  · rintro (h | ⟨r, h, hr, hh, rfl⟩)
    · exact .inl h
    · exact .inr ⟨r, mem_low.mpr hr, List.mem_map.mpr ⟨h, mem_high.mpr hh, rfl⟩⟩
section
variable {n : Nat} {rs : List (List Int)} {y : List Int}
theorem pair_len {i : Nat} {r h : List Int} (lh : h.length = n) : (pairF i r h).length = n := by
  unfold pairF
  rw [comb_len, lh]
theorem wo_len (lr : Ln n rs) (i : Nat) : Ln n (woF rs i) := fun q hq => by
  rcases mem_wo.mp hq with h | ⟨r, h, _, hh, rfl⟩
  · exact lr q h.1
  · exact pair_len (lr h hh.1)
theorem wo_sound (lr : Ln n rs) (ly : y.length = n) (i : Nat) (hy : Hold rs y) : Hold (woF rs i) y := fun q hq => by
  rcases mem_wo.mp hq with h | ⟨r, h, hr, hh, rfl⟩
  · exact hy q h.1
  · unfold pairF
    rw [dot_combL (by rw [lr h hh.1, ly])]
    have h1 := Int.mul_nonneg (Int.le_of_lt hr.2) (hy h hh.1)
    have h2 := Int.mul_nonneg (show 0 ≤ -h.getD i 0 by omega) (hy r hr.1)
    rw [Int.neg_mul] at h2
    omega
/-- the place of one variable put otherwise, all multiplied -/
def putF (k : Int) (y : List Int) (i : Nat) (z : Int) : List Int := (List.range y.length).map fun j => if j = i then z else k * y.getD j 0
theorem put_len (k : Int) (y : List Int) (i : Nat) (z : Int) : (putF k y i z).length = y.length := by simp [putF]
theorem put_at {k : Int} {y : List Int} {i : Nat} {z : Int} {j : Nat} (hj : j < y.length) : (putF k y i z).getD j 0 = if j = i then z else k * y.getD j 0 := by
  unfold putF
  rw [List.getD_eq_getElem?_getD, List.getElem?_map, List.getElem?_range hj]
  rfl
theorem sum_one {F : Nat → Int} {i : Nat} : ∀ {m : Nat}, i < m → (∀ j, j < m → j ≠ i → F j = 0) → ((List.range m).map F).sum = F i
  | 0, h, _ => absurd h (Nat.not_lt_zero _)
  | m + 1, h, hz => by
    rw [List.range_succ, List.map_append, List.sum_append, List.map_singleton, List.sum_singleton]
    by_cases q : i = m
    · subst q
      have : ((List.range i).map F).sum = 0 := by
        have e : (List.range i).map F = (List.range i).map fun _ => (0 : Int) := List.map_congr_left fun j hj => by
          have := List.mem_range.mp hj
          exact hz j (by omega) (by omega)
        rw [e]
        clear e hz h
        induction i with
        | zero => rfl
        | succ i ih => rw [List.range_succ, List.map_append, List.sum_append, ih]; rfl
      omega
    · rw [sum_one (show i < m by omega) (fun j hj hn => hz j (by omega) hn), hz m (by omega) (fun e => q e.symm)]
      omega
theorem dot_put {k : Int} {i : Nat} {z : Int} {r : List Int} (hi : i < y.length) : dot r (putF k y i z) = k * (dot r y - r.getD i 0 * y.getD i 0) + r.getD i 0 * z := by
  unfold dot
  rw [put_len]
  have e := sum_lin y.length (fun j => r.getD j 0 * (putF k y i z).getD j 0) (fun j => r.getD j 0 * y.getD j 0) (fun j => if j = i then r.getD i 0 * z - k * (r.getD i 0 * y.getD i 0) else 0) k 1 (fun j hj => by
    show r.getD j 0 * (putF k y i z).getD j 0 = k * (r.getD j 0 * y.getD j 0) + 1 * (if j = i then r.getD i 0 * z - k * (r.getD i 0 * y.getD i 0) else 0)
    rw [put_at hj]
    by_cases q : j = i
    · rw [if_pos q, if_pos q, q]
      omega
    · rw [if_neg q, if_neg q, Int.mul_left_comm]
      omega)
  have e3 : ((List.range y.length).map fun j => if j = i then r.getD i 0 * z - k * (r.getD i 0 * y.getD i 0) else 0).sum = r.getD i 0 * z - k * (r.getD i 0 * y.getD i 0) := by
    rw [sum_one (F := fun j => if j = i then r.getD i 0 * z - k * (r.getD i 0 * y.getD i 0) else 0) (i := i) hi (fun j _ hn => if_neg hn)]
    exact if_pos rfl
  rw [e, e3, Int.mul_sub k]
  omega
/-- the tightest bound from below -/
theorem best_low {e c : List Int → Int} : ∀ {l : List (List Int)}, l ≠ [] → (∀ r ∈ l, 0 < c r) → ∃ s ∈ l, ∀ r ∈ l, e s * c r ≤ e r * c s
  | [], h, _ => absurd rfl h
  | [a], _, _ => ⟨a, List.mem_cons_self .., fun r hr => by rw [List.mem_singleton.mp hr]; exact Int.le_refl _⟩
  | a :: b :: l, _, hc => by
    obtain ⟨s, hs, m⟩ := best_low (e := e) (c := c) (l := b :: l) (by simp) fun r hr => hc r (List.mem_cons_of_mem _ hr)
    have ca := hc a (List.mem_cons_self ..)
    have cs := hc s (List.mem_cons_of_mem _ hs)
    by_cases q : e s * c a ≤ e a * c s
    · refine ⟨s, List.mem_cons_of_mem _ hs, fun r hr => ?_⟩
      rcases List.mem_cons.mp hr with rfl | hr
      · exact q
      · exact m r hr
    · refine ⟨a, List.mem_cons_self .., fun r hr => ?_⟩
      rcases List.mem_cons.mp hr with rfl | hr
      · exact Int.le_refl _
      · exact ratio ca cs (hc r (List.mem_cons_of_mem _ hr)) (by omega) (m r hr)
theorem over_all {F : List Int → Int} : ∀ {l : List (List Int)} {r : List Int}, r ∈ l → (F r).natAbs ≤ (l.map fun q => (F q).natAbs).sum
  | a :: l, r, h => by
    rw [List.map_cons, List.sum_cons]
    rcases List.mem_cons.mp h with rfl | h
    · omega
    · have := over_all (F := F) h
      omega
theorem wo_complete (lr : Ln n rs) (ly : y.length = n) {i : Nat} (hi : i < n) (hy : Hold (woF rs i) y) : ∃ k z : Int, 0 < k ∧ Hold rs (putF k y i z) := by
  have hi2 : i < y.length := by omega
  generalize hE : (fun r : List Int => dot r y - r.getD i 0 * y.getD i 0) = E
  have dp : ∀ (k z : Int) (r : List Int), dot r (putF k y i z) = k * E r + r.getD i 0 * z := fun k z r => by
    rw [dot_put hi2, ← hE]
  have z0 : ∀ r ∈ rs, r.getD i 0 = 0 → 0 ≤ E r := fun r hr h0 => by
    have := hy r (mem_wo.mpr (.inl ⟨hr, h0⟩))
    rw [← hE]
    show 0 ≤ dot r y - r.getD i 0 * y.getD i 0
    rw [h0, Int.zero_mul, Int.sub_zero]
    exact this
  have pr : ∀ r ∈ rs, 0 < r.getD i 0 → ∀ h ∈ rs, h.getD i 0 < 0 → 0 ≤ r.getD i 0 * E h - h.getD i 0 * E r := fun r hr r0 h hh h0 => by
    have := hy (pairF i r h) (mem_wo.mpr (.inr ⟨r, h, ⟨hr, r0⟩, ⟨hh, h0⟩, rfl⟩))
    unfold pairF at this
    rw [dot_combL (by rw [lr h hh, ly])] at this
    rw [← hE]
    show 0 ≤ r.getD i 0 * (dot h y - h.getD i 0 * y.getD i 0) - h.getD i 0 * (dot r y - r.getD i 0 * y.getD i 0)
    rw [Int.mul_sub, Int.mul_sub, Int.mul_left_comm (h.getD i 0) (r.getD i 0)]
    omega
  clear hE
  by_cases hl : lowR rs i = []
  · have M0 : (0 : Int) ≤ (((rs.map fun q => (E q).natAbs).sum : Nat) : Int) := Int.natCast_nonneg _
    have ov : ∀ r ∈ rs, -E r ≤ (((rs.map fun q => (E q).natAbs).sum : Nat) : Int) := fun r hr => by
      have := over_all (F := E) hr
      omega
    generalize (((rs.map fun q => (E q).natAbs).sum : Nat) : Int) = M at M0 ov
    refine ⟨1, -M, by decide, fun r hr => ?_⟩
    rw [dp, Int.one_mul]
    rcases Int.lt_trichotomy (r.getD i 0) 0 with q | q | q
    · have h1 := ov r hr
      have h2 := Int.mul_le_mul_of_nonneg_right (show 1 ≤ -r.getD i 0 by omega) M0
      rw [Int.one_mul, Int.neg_mul] at h2
      rw [Int.mul_neg]
      omega
    · rw [q, Int.zero_mul]
      have := z0 r hr q
      omega
    · have : r ∈ lowR rs i := mem_low.mpr ⟨hr, q⟩
      rw [hl] at this
      cases this
  · obtain ⟨s, hs, m⟩ := best_low (e := E) (c := fun r => r.getD i 0) hl fun r hr => (mem_low.mp hr).2
    obtain ⟨hs, s0⟩ := mem_low.mp hs
    refine ⟨s.getD i 0, -E s, s0, fun r hr => ?_⟩
    rw [dp]
    rcases Int.lt_trichotomy (r.getD i 0) 0 with q | q | q
    · have := pr s hs s0 r hr q
      rw [Int.mul_neg]
      omega
    · rw [q, Int.zero_mul]
      have := Int.mul_nonneg (Int.le_of_lt s0) (z0 r hr q)
      omega
    · have h1 : E s * r.getD i 0 ≤ E r * s.getD i 0 := m r (mem_low.mpr ⟨hr, q⟩)
      rw [Int.mul_neg, Int.mul_comm (r.getD i 0), Int.mul_comm (s.getD i 0)]
      omega
end
end Dd
set_option Elab.async false
set_option linter.all false
set_option maxRecDepth 100000
set_option maxHeartbeats 4000000
namespace Dd
open Rl Pg
/-! ### what is left when all variables are gone -/
theorem end_getD {x : List Int} {m i : Nat} {r : List Int} (lx : m ≤ x.length) : (x.take m ++ r).getD i 0 = if i < m then x.getD i 0 else r.getD (i - m) 0 := by
  have lt : (x.take m).length = m := by rw [List.length_take]; omega
  by_cases q : i < m
  · rw [if_pos q, List.getD_eq_getElem?_getD, List.getElem?_append_left (by omega), List.getElem?_take_of_lt q, ← List.getD_eq_getElem?_getD]
  · rw [if_neg q, List.getD_eq_getElem?_getD, List.getElem?_append_right (by omega), lt, ← List.getD_eq_getElem?_getD]
def headS (m : Nat) (f y : List Int) : Int := ((List.range m).map fun i => f.getD i 0 * y.getD i 0).sum
theorem dot_two {m : Nat} {f y : List Int} (ly : y.length = m + 2) : dot f y = headS m f y + f.getD m 0 * y.getD m 0 + f.getD (m + 1) 0 * y.getD (m + 1) 0 := by
  unfold dot headS
  rw [ly, List.range_succ, List.range_succ]
  simp only [List.map_append, List.map_cons, List.map_nil, List.sum_append, List.sum_cons, List.sum_nil]
  omega
theorem dot_one {m : Nat} {f x : List Int} (lx : x.length = m + 1) : dot f x = headS m f x + f.getD m 0 * x.getD m 0 := by
  unfold dot headS
  rw [lx, List.range_succ]
  simp only [List.map_append, List.map_cons, List.map_nil, List.sum_append, List.sum_cons, List.sum_nil]
  omega
theorem head_same {m : Nat} {f f' y y' : List Int} (h1 : ∀ i, i < m → f.getD i 0 = f'.getD i 0) (h2 : ∀ i, i < m → y.getD i 0 = y'.getD i 0) : headS m f y = headS m f' y' := by
  unfold headS
  congr 1
  exact List.map_congr_left fun i hi => by
    have := List.mem_range.mp hi
    rw [h1 i this, h2 i this]
theorem head_neg {m : Nat} {f f' y : List Int} (h1 : ∀ i, i < m → f.getD i 0 = 0 - f'.getD i 0) : headS m f y = -headS m f' y := by
  unfold headS
  have := sum_lin m (fun i => f.getD i 0 * y.getD i 0) (fun i => f'.getD i 0 * y.getD i 0) (fun _ => 0) (-1) 0 (fun i hi => by
    show f.getD i 0 * y.getD i 0 = -1 * (f'.getD i 0 * y.getD i 0) + 0 * 0
    rw [h1 i hi, Int.sub_mul]
    omega)
  rw [this]
  omega
theorem head_zero {m : Nat} {f y : List Int} (h1 : ∀ i, i < m → f.getD i 0 = 0) : headS m f y = 0 := by
  unfold headS
  have := sum_lin m (fun i => f.getD i 0 * y.getD i 0) (fun _ => 0) (fun _ => 0) 0 0 (fun i hi => by
    show f.getD i 0 * y.getD i 0 = 0 * 0 + 0 * 0
    rw [h1 i hi]
    omega)
  rw [this]
  omega
def rowT (m : Nat) (t : List Int) : List Int := t.take m ++ [0, t.getD m 0]
def rowS (m : Nat) (g : List Int) : List Int := (g.take m).map (fun z => 0 - z) ++ [1, 0 - g.getD m 0]
def rows0 (m : Nat) (ts : List (List Int)) (g : List Int) : List (List Int) := ts.map (rowT m) ++ [rowS m g]
theorem rowT_at {m : Nat} {t : List Int} (lt : t.length = m + 1) (i : Nat) : (rowT m t).getD i 0 = if i < m then t.getD i 0 else ([0, t.getD m 0] : List Int).getD (i - m) 0 := end_getD (by omega)
theorem rowS_at {m : Nat} {g : List Int} (lg : g.length = m + 1) (i : Nat) : (rowS m g).getD i 0 = if i < m then 0 - g.getD i 0 else ([1, 0 - g.getD m 0] : List Int).getD (i - m) 0 := by
  have e : rowS m g = (g.map fun z => 0 - z).take m ++ [1, 0 - g.getD m 0] := by unfold rowS; rw [List.map_take]
  rw [e, end_getD (by rw [List.length_map]; omega)]
  by_cases q : i < m
  · rw [if_pos q, if_pos q, List.getD_eq_getElem?_getD, List.getElem?_map, List.getD_eq_getElem?_getD, List.getElem?_eq_getElem (by omega)]
    rfl
  · rw [if_neg q, if_neg q]
theorem m_m {m : Nat} : m - m = 0 := Nat.sub_self m
theorem m_1 {m : Nat} : m + 1 - m = 1 := by omega
section
variable {m : Nat} {ts : List (List Int)} {g : List Int}
theorem rowT_len {t : List Int} (lt : t.length = m + 1) : (rowT m t).length = m + 2 := by
  unfold rowT
  rw [List.length_append, List.length_take, lt]
  show min m (m + 1) + 2 = _
  omega
theorem rowS_len (lg : g.length = m + 1) : (rowS m g).length = m + 2 := by
  unfold rowS
  rw [List.length_append, List.length_map, List.length_take, lg]
  show min m (m + 1) + 2 = _
  omega
theorem rows0_len (lt : Ln (m + 1) ts) (lg : g.length = m + 1) : Ln (m + 2) (rows0 m ts g) := fun r hr => by
  unfold rows0 at hr
  rcases List.mem_append.mp hr with h | h
  · obtain ⟨t, ht, rfl⟩ := List.mem_map.mp h
    exact rowT_len (lt t ht)
  · rw [List.mem_singleton.mp h]
    exact rowS_len lg
theorem dot_rowT {t x y : List Int} (lt : t.length = m + 1) (lx : x.length = m + 1) (ly : y.length = m + 2) (hx : ∀ i, i < m → y.getD i 0 = x.getD i 0) (hd : y.getD (m + 1) 0 = x.getD m 0) : dot (rowT m t) y = dot t x := by
  rw [dot_two ly, dot_one lx, rowT_at lt, rowT_at lt, if_neg (Nat.lt_irrefl m), if_neg (by omega), m_m, m_1]
  rw [head_same (f' := t) (y' := x) (fun i hi => by rw [rowT_at lt, if_pos hi]) hx, hd]
  show _ + 0 * y.getD m 0 + t.getD m 0 * x.getD m 0 = _
  omega
theorem dot_rowS {x y : List Int} (lg : g.length = m + 1) (lx : x.length = m + 1) (ly : y.length = m + 2) (hx : ∀ i, i < m → y.getD i 0 = x.getD i 0) (hd : y.getD (m + 1) 0 = x.getD m 0) : dot (rowS m g) y = y.getD m 0 - dot g x := by
  rw [dot_two ly, dot_one lx, rowS_at lg, rowS_at lg, if_neg (Nat.lt_irrefl m), if_neg (by omega), m_m, m_1]
  rw [head_neg (f' := g) (fun i hi => by rw [rowS_at lg, if_pos hi]), head_same (f' := g) (y' := x) (fun i hi => rfl) hx, hd]
  show _ + 1 * y.getD m 0 + (0 - g.getD m 0) * x.getD m 0 = _
  rw [Int.sub_mul]
  omega
theorem hold0 (lt : Ln (m + 1) ts) (lg : g.length = m + 1) {x y : List Int} (lx : x.length = m + 1) (ly : y.length = m + 2) (hx : ∀ i, i < m → y.getD i 0 = x.getD i 0) (hd : y.getD (m + 1) 0 = x.getD m 0) :
    Hold (rows0 m ts g) y ↔ (∀ t ∈ ts, 0 ≤ dot t x) ∧ dot g x ≤ y.getD m 0 := by
  unfold rows0
  constructor
  · intro h
    refine ⟨fun t ht => ?_, ?_⟩
    · rw [← dot_rowT (lt t ht) lx ly hx hd]
      exact h _ (List.mem_append_left _ (List.mem_map.mpr ⟨t, ht, rfl⟩))
    · have := h _ (List.mem_append_right _ (List.mem_singleton.mpr rfl))
      rw [dot_rowS lg lx ly hx hd] at this
      omega
  · rintro ⟨h1, h2⟩ r hr
    rcases List.mem_append.mp hr with h | h
    · obtain ⟨t, ht, rfl⟩ := List.mem_map.mp h
      rw [dot_rowT (lt t ht) lx ly hx hd]
      exact h1 t ht
    · rw [List.mem_singleton.mp h, dot_rowS lg lx ly hx hd]
      omega
/-- what is kept while variables are taken away -/
structure FmI (m : Nat) (rs0 rs : List (List Int)) (i : Nat) : Prop where
  len : Ln (m + 2) rs
  zer : ∀ r ∈ rs, ∀ j, j < i → r.getD j 0 = 0
  vp : ∀ r ∈ rs, 0 ≤ r.getD m 0
  snd : ∀ y, y.length = m + 2 → Hold rs0 y → Hold rs y
  cmp : ∀ y, y.length = m + 2 → Hold rs y → ∃ (k : Int) (z : List Int), 0 < k ∧ z.length = m + 2 ∧ (∀ j, i ≤ j → j < m + 2 → z.getD j 0 = k * y.getD j 0) ∧ Hold rs0 z
theorem fm_zero (lt : Ln (m + 1) ts) (lg : g.length = m + 1) : FmI m (rows0 m ts g) (rows0 m ts g) 0 := by
  refine ⟨rows0_len lt lg, fun r _ j hj => absurd hj (Nat.not_lt_zero _), fun r hr => ?_, fun y _ h => h, fun y ly h => ⟨1, y, by decide, ly, fun j _ _ => (Int.one_mul _).symm, h⟩⟩
  unfold rows0 at hr
  rcases List.mem_append.mp hr with h | h
  · obtain ⟨t, ht, rfl⟩ := List.mem_map.mp h
    rw [rowT_at (lt t ht), if_neg (Nat.lt_irrefl m), m_m]
    exact Int.le_refl _
  · rw [List.mem_singleton.mp h, rowS_at lg, if_neg (Nat.lt_irrefl m), m_m]
    show (0 : Int) ≤ 1
    decide
theorem fm_next {rs0 rs qs : List (List Int)} {i : Nat} (I : FmI m rs0 rs i) (hi : i < m) (e : ∀ r, r ∈ qs ↔ r ∈ woF rs i) : FmI m rs0 qs (i + 1) := by
  have pg : ∀ {r h : List Int} {j : Nat}, h ∈ rs → j < m + 2 → (pairF i r h).getD j 0 = r.getD i 0 * h.getD j 0 - h.getD i 0 * r.getD j 0 := fun {r h j} hh hj => by
    unfold pairF
    exact comb_getD (by rw [I.len h hh]; exact hj)
  refine ⟨fun q hq => wo_len I.len i q ((e q).mp hq), fun q hq j hj => ?_, fun q hq => ?_, fun y ly h q hq => wo_sound I.len ly i (I.snd y ly h) q ((e q).mp hq), fun y ly h => ?_⟩
  · rcases mem_wo.mp ((e q).mp hq) with ⟨h1, h2⟩ | ⟨r, h, ⟨hr, _⟩, ⟨hh, _⟩, rfl⟩
    · by_cases q2 : j = i
      · rw [q2]
        exact h2
      · exact I.zer q h1 j (by omega)
    · rw [pg hh (by omega)]
      by_cases q2 : j = i
      · rw [q2, Int.mul_comm]
        omega
      · rw [I.zer r hr j (by omega), I.zer h hh j (by omega)]
        omega
  · rcases mem_wo.mp ((e q).mp hq) with ⟨h1, h2⟩ | ⟨r, h, ⟨hr, r0⟩, ⟨hh, h0⟩, rfl⟩
    · exact I.vp q h1
    · rw [pg hh (by omega)]
      have a1 := Int.mul_nonneg (Int.le_of_lt r0) (I.vp h hh)
      have a2 := Int.mul_nonneg (show 0 ≤ -h.getD i 0 by omega) (I.vp r hr)
      rw [Int.neg_mul] at a2
      omega
  · obtain ⟨k, z, k0, hz⟩ := wo_complete I.len ly (i := i) (by omega) (fun r hr => h r ((e r).mpr hr))
    obtain ⟨k2, z2, k20, lz, at_, hz2⟩ := I.cmp _ (by rw [put_len]; exact ly) hz
    refine ⟨k2 * k, z2, Int.mul_pos k20 k0, lz, fun j hj hj2 => ?_, hz2⟩
    rw [at_ j (by omega) hj2, put_at (by omega), if_neg (by omega), Int.mul_assoc]
/-- the left rows at a value and a size -/
theorem fm_dot {rs0 rs : List (List Int)} (I : FmI m rs0 rs m) {r y : List Int} (hr : r ∈ rs) (ly : y.length = m + 2) : dot r y = r.getD m 0 * y.getD m 0 + r.getD (m + 1) 0 * y.getD (m + 1) 0 := by
  rw [dot_two ly, head_zero fun i hi => I.zer r hr i hi]
  omega
theorem last_at {x : List Int} (lx : x.length = m + 1) : lastI x = x.getD m 0 := by
  unfold lastI
  rw [lx]
  rfl
theorem fm_below {rs : List (List Int)} (lt : Ln (m + 1) ts) (lg : g.length = m + 1) (I : FmI m (rows0 m ts g) rs m) {x r : List Int} (hx : In (m + 1) ts x) (hr : r ∈ rs) : 0 ≤ r.getD m 0 * dot g x + r.getD (m + 1) 0 * lastI x := by
  have ly : (x.take m ++ [dot g x, x.getD m 0]).length = m + 2 := by
    rw [List.length_append, List.length_take, hx.l]
    show min m (m + 1) + 2 = _
    omega
  have em : (x.take m ++ [dot g x, x.getD m 0]).getD m 0 = dot g x := by
    rw [end_getD (by rw [hx.l]; omega), if_neg (Nat.lt_irrefl m), m_m]
    rfl
  have e1 : (x.take m ++ [dot g x, x.getD m 0]).getD (m + 1) 0 = x.getD m 0 := by
    rw [end_getD (by rw [hx.l]; omega), if_neg (by omega), m_1]
    rfl
  have h0 : Hold (rows0 m ts g) (x.take m ++ [dot g x, x.getD m 0]) := (hold0 lt lg hx.l ly (fun i hi => by rw [end_getD (by rw [hx.l]; omega), if_pos hi]) e1).mpr ⟨hx.t, by rw [em]; exact Int.le_refl _⟩
  have := I.snd _ ly h0 r hr
  rw [fm_dot I hr ly, em, e1] at this
  rw [last_at hx.l]
  exact this
theorem fm_lift {rs : List (List Int)} (lt : Ln (m + 1) ts) (lg : g.length = m + 1) (I : FmI m (rows0 m ts g) rs m) {v d : Int} (d0 : 0 ≤ d) (h : ∀ r ∈ rs, 0 ≤ r.getD m 0 * v + r.getD (m + 1) 0 * d) : ∃ (k : Int) (x : List Int), 0 < k ∧ In (m + 1) ts x ∧ lastI x = k * d ∧ dot g x ≤ k * v := by
  have ly : ((List.replicate m (0 : Int)).take m ++ [v, d]).length = m + 2 := by
    rw [List.length_append, List.length_take, List.length_replicate]
    show min m m + 2 = _
    omega
  have em : ((List.replicate m (0 : Int)).take m ++ [v, d]).getD m 0 = v := by
    rw [end_getD (by rw [List.length_replicate]; omega), if_neg (Nat.lt_irrefl m), m_m]
    rfl
  have e1 : ((List.replicate m (0 : Int)).take m ++ [v, d]).getD (m + 1) 0 = d := by
    rw [end_getD (by rw [List.length_replicate]; omega), if_neg (by omega), m_1]
    rfl
  obtain ⟨k, z, k0, lz, at_, hz⟩ := I.cmp _ ly fun r hr => by
    rw [fm_dot I hr ly, em, e1]
    exact h r hr
  have lx : (z.take m ++ [z.getD (m + 1) 0]).length = m + 1 := by
    rw [List.length_append, List.length_take, lz]
    show min m (m + 2) + 1 = _
    omega
  have xm : (z.take m ++ [z.getD (m + 1) 0]).getD m 0 = z.getD (m + 1) 0 := by
    rw [end_getD (by rw [lz]; omega), if_neg (Nat.lt_irrefl m), m_m]
    rfl
  obtain ⟨h1, h2⟩ := (hold0 lt lg lx lz (fun i hi => by rw [end_getD (by rw [lz]; omega), if_pos hi]) xm.symm).mp hz
  rw [at_ m (Nat.le_refl _) (by omega), em] at h2
  have la : lastI (z.take m ++ [z.getD (m + 1) 0]) = k * d := by rw [last_at lx, xm, at_ (m + 1) (by omega) (by omega), e1]
  exact ⟨k, _, k0, ⟨lx, by rw [la]; exact Int.mul_nonneg (Int.le_of_lt k0) d0, h1⟩, la, h2⟩
theorem fm_none {rs : List (List Int)} (lt : Ln (m + 1) ts) (lg : g.length = m + 1) (I : FmI m (rows0 m ts g) rs m) {r : List Int} (hr : r ∈ rs) (r0 : r.getD m 0 = 0) (r1 : r.getD (m + 1) 0 < 0) : reachF (arrF (m + 1) ts) = false := by
  cases e : reachF (arrF (m + 1) ts) with
  | false => rfl
  | true =>
    obtain ⟨x, hx, x0⟩ := (reach_iff (by omega) lt).mp e
    have := fm_below lt lg I hx hr
    rw [r0, Int.zero_mul, Int.zero_add] at this
    have := Int.mul_neg_of_neg_of_pos r1 x0
    omega
theorem fm_end {rs : List (List Int)} (lt : Ln (m + 1) ts) (lg : g.length = m + 1) (I : FmI m (rows0 m ts g) rs m) (h : ∀ r ∈ rs, r.getD m 0 = 0 → 0 ≤ r.getD (m + 1) 0) (hn : ∀ r ∈ rs, ¬ 0 < r.getD m 0) : reachF (arrF (m + 1) ts) = true ∧ endF (arrF (m + 1) ts) g ≠ [] := by
  have z : ∀ r ∈ rs, r.getD m 0 = 0 := fun r hr => by
    have := I.vp r hr
    have := hn r hr
    omega
  constructor
  · obtain ⟨k, x, k0, hx, lx, _⟩ := fm_lift (v := 0) (d := 1) lt lg I (by decide) fun r hr => by
      rw [z r hr]
      have := h r hr (z r hr)
      omega
    exact (reach_iff (by omega) lt).mpr ⟨x, hx, by omega⟩
  · obtain ⟨k, x, k0, hx, lx, gx⟩ := fm_lift (v := -1) (d := 0) lt lg I (by decide) fun r hr => by
      rw [z r hr]
      omega
    exact (end_iff (by omega) lt lg).mpr ⟨x, hx, by omega, by omega⟩
theorem fm_val {rs : List (List Int)} (lt : Ln (m + 1) ts) (lg : g.length = m + 1) (I : FmI m (rows0 m ts g) rs m) (h : ∀ r ∈ rs, r.getD m 0 = 0 → 0 ≤ r.getD (m + 1) 0) {s : List Int} (hs : s ∈ rs) (s0 : 0 < s.getD m 0) (ms : ∀ r ∈ rs, 0 < r.getD m 0 → (0 - r.getD (m + 1) 0) * s.getD m 0 ≤ (0 - s.getD (m + 1) 0) * r.getD m 0) :
    reachF (arrF (m + 1) ts) = true ∧ endF (arrF (m + 1) ts) g = [] ∧ lowF (bestF (valsF (arrF (m + 1) ts) g)) = [(0 - s.getD (m + 1) 0) / ((Nat.gcd (0 - s.getD (m + 1) 0).natAbs (s.getD m 0).natAbs : Nat) : Int), s.getD m 0 / ((Nat.gcd (0 - s.getD (m + 1) 0).natAbs (s.getD m 0).natAbs : Nat) : Int)] := by
  have low : ∀ x, In (m + 1) ts x → (0 - s.getD (m + 1) 0) * lastI x ≤ s.getD m 0 * dot g x := fun x hx => by
    have := fm_below lt lg I hx hs
    rw [Int.sub_mul, Int.zero_mul]
    omega
  obtain ⟨k, x, k0, hx, lx, gx⟩ := fm_lift (v := 0 - s.getD (m + 1) 0) (d := s.getD m 0) lt lg I (Int.le_of_lt s0) fun r hr => by
    have v0 := I.vp r hr
    rcases Int.lt_or_eq_of_le v0 with q | q
    · have := ms r hr q
      rw [Int.mul_comm (r.getD m 0)]
      rw [Int.sub_mul (0 : Int) (r.getD (m + 1) 0)] at this
      omega
    · rw [← q, Int.zero_mul, Int.zero_add]
      exact Int.mul_nonneg (h r hr q.symm) (Int.le_of_lt s0)
  refine ans_val (a := s.getD m 0) (b := 0 - s.getD (m + 1) 0) (by omega) lt lg s0 hx (by rw [lx]; exact Int.mul_pos k0 s0) ?_ low
  have h1 := low x hx
  have h2 := Int.mul_le_mul_of_nonneg_left gx (Int.le_of_lt s0)
  have e1 : (0 - s.getD (m + 1) 0) * (k * s.getD m 0) = s.getD m 0 * (k * (0 - s.getD (m + 1) 0)) := by
    rw [Int.mul_comm, Int.mul_assoc, Int.mul_left_comm]
  rw [lx] at h1 ⊢
  rw [e1] at h1 ⊢
  omega
end
/-! the answer hangs on the cone alone -/
section
variable {n : Nat} {ts us : List (List Int)} {g : List Int}
theorem ext_no (n1 : 1 ≤ n) (lt : Ln n ts) (lu : Ln n us) (e : ∀ x, In n ts x ↔ In n us x) (h : reachF (arrF n ts) = false) : reachF (arrF n us) = false := by
  cases q : reachF (arrF n us) with
  | false => rfl
  | true =>
    obtain ⟨x, hx, x0⟩ := (reach_iff n1 lu).mp q
    rw [(reach_iff n1 lt).mpr ⟨x, (e x).mpr hx, x0⟩] at h
    cases h
theorem ext_reach (n1 : 1 ≤ n) (lt : Ln n ts) (lu : Ln n us) (e : ∀ x, In n ts x ↔ In n us x) (h : reachF (arrF n ts) = true) : reachF (arrF n us) = true := by
  obtain ⟨x, hx, x0⟩ := (reach_iff n1 lt).mp h
  exact (reach_iff n1 lu).mpr ⟨x, (e x).mp hx, x0⟩
theorem ext_end (n1 : 1 ≤ n) (lt : Ln n ts) (lu : Ln n us) (lg : g.length = n) (e : ∀ x, In n ts x ↔ In n us x) (h : endF (arrF n ts) g ≠ []) : endF (arrF n us) g ≠ [] := by
  obtain ⟨x, hx, x0⟩ := (end_iff n1 lt lg).mp h
  exact (end_iff n1 lu lg).mpr ⟨x, (e x).mp hx, x0⟩
theorem ext_val (n1 : 1 ≤ n) (lt : Ln n ts) (lu : Ln n us) (lg : g.length = n) (e : ∀ x, In n ts x ↔ In n us x) (h1 : reachF (arrF n ts) = true) (h2 : endF (arrF n ts) g = []) :
    endF (arrF n us) g = [] ∧ lowF (bestF (valsF (arrF n us) g)) = lowF (bestF (valsF (arrF n ts) g)) := by
  obtain ⟨p, q, eb, q0, ⟨a, ha, la, ga⟩, mm⟩ := least_is n1 lt lg h1 h2
  obtain ⟨_, r2, r3⟩ := ans_val (a := q) (b := p) n1 lu lg q0 ((e a).mp ha) (by omega) (by rw [la, ga, Int.mul_comm]) fun x hx => by
    have := mm x ((e x).mpr hx)
    rw [Int.mul_comm q]
    exact this
  refine ⟨r2, ?_⟩
  rw [r3, eb, low2]
end
end Dd
set_option Elab.async false
set_option linter.all false
set_option maxRecDepth 100000
set_option maxHeartbeats 4000000
set_option exponentiation.threshold 20000
namespace Dd
open Rl Pg
/-! ### how many rows, how great -/
theorem three_parts (i : Nat) : ∀ rs : List (List Int), (lowR rs i).length + (highR rs i).length + (zeroR rs i).length = rs.length
  | [] => rfl
  | r :: rs => by
    have ih := three_parts i rs
    unfold lowR highR zeroR at ih ⊢
    rw [List.filter_cons, List.filter_cons, List.filter_cons, List.length_cons]
    rcases Int.lt_trichotomy (r.getD i 0) 0 with q | q | q
    · rw [if_neg (fun h => by have := of_decide_eq_true h; omega), if_pos (decide_eq_true (by omega)), if_neg (fun h => by have := of_decide_eq_true h; omega), List.length_cons]
      omega
    · rw [if_neg (fun h => by have := of_decide_eq_true h; omega), if_neg (fun h => by have := of_decide_eq_true h; omega), if_pos (decide_eq_true (by omega)), List.length_cons]
      omega
    · rw [if_pos (decide_eq_true (by omega)), if_neg (fun h => by have := of_decide_eq_true h; omega), if_neg (fun h => by have := of_decide_eq_true h; omega), List.length_cons]
      omega
theorem prod_le (a b : Nat) : 4 * (a * b) ≤ (a + b) * (a + b) := by
  have e : (a + b) * (a + b) = a * a + b * b + 2 * (a * b) := by
    rw [Nat.add_mul, Nat.mul_add, Nat.mul_add, Nat.mul_comm b a]
    omega
  have h : 2 * (a * b) ≤ a * a + b * b := by
    rcases Nat.le_total a b with q | q
    · obtain ⟨d, rfl⟩ := Nat.exists_eq_add_of_le q
      have e1 : a * (a + d) = a * a + a * d := Nat.mul_add ..
      have e2 : (a + d) * (a + d) = a * a + a * d + (d * a + d * d) := by rw [Nat.add_mul, Nat.mul_add, Nat.mul_add]
      have e3 : d * a = a * d := Nat.mul_comm ..
      omega
    · obtain ⟨d, rfl⟩ := Nat.exists_eq_add_of_le q
      have e1 : (b + d) * b = b * b + d * b := Nat.add_mul ..
      have e2 : (b + d) * (b + d) = b * b + b * d + (d * b + d * d) := by rw [Nat.add_mul, Nat.mul_add, Nat.mul_add]
      have e3 : b * d = d * b := Nat.mul_comm ..
      omega
  omega
theorem flat_len {α β γ : Type} (l : List α) (h : List β) (f : α → β → γ) : (l.flatMap fun r => h.map fun s => f r s).length = l.length * h.length := by
  induction l with
  | nil => simp
  | cons a l ih => rw [List.flatMap_cons, List.length_append, ih, List.length_map, List.length_cons, Nat.succ_mul]; omega
theorem wo_length (rs : List (List Int)) (i : Nat) : 4 * (woF rs i).length ≤ 4 * rs.length + rs.length * rs.length := by
  have h := three_parts i rs
  have p := prod_le (lowR rs i).length (highR rs i).length
  unfold woF
  rw [List.length_append, flat_len]
  have q : ((lowR rs i).length + (highR rs i).length) * ((lowR rs i).length + (highR rs i).length) ≤ rs.length * rs.length := Nat.mul_le_mul (by omega) (by omega)
  omega
theorem wo_bd {rs : List (List Int)} {b : Nat} (h : Bds b rs) (i : Nat) : Bds (2 * b + 1) (woF rs i) := fun q hq => by
  rcases mem_wo.mp hq with h1 | ⟨r, s, ⟨hr, _⟩, ⟨hs, _⟩, rfl⟩
  · exact Bd.mono (by omega) (h q h1.1)
  · have e : ∀ t ∈ rs, ∀ j, (t.getD j 0).natAbs < 2 ^ b := fun t ht j => by
      rw [List.getD_eq_getElem?_getD]
      cases ej : t[j]? with
      | none => exact Nat.pow_pos (by decide)
      | some z => exact h t ht z (List.mem_of_getElem? ej)
    intro z hz
    unfold pairF combF at hz
    obtain ⟨j, hj, rfl⟩ := List.mem_map.mp hz
    have m1 : (r.getD i 0 * s.getD j 0).natAbs < 2 ^ b * 2 ^ b := by
      rw [Int.natAbs_mul]
      exact Nat.mul_lt_mul'' (e r hr i) (e s hs j)
    have m2 : (s.getD i 0 * r.getD j 0).natAbs < 2 ^ b * 2 ^ b := by
      rw [Int.natAbs_mul]
      exact Nat.mul_lt_mul'' (e s hs i) (e r hr j)
    have p : 2 ^ (2 * b + 1) = 2 * (2 ^ b * 2 ^ b) := by rw [Nat.pow_succ, Nat.two_mul, Nat.pow_add]; omega
    rw [p]
    omega
end Dd
set_option Elab.async false
set_option linter.all false
set_option maxRecDepth 100000
set_option maxHeartbeats 8000000
set_option exponentiation.threshold 20000
namespace K5
open PySem PySem.Spec PyProof.Rows L2 Gd Rl
open Pg (Mo VA)
open Dd (Bd Bds Ln lowR highR zeroR pairF woF)
abbrev sWo : Stmt := top 29
/-! ### conditions without one of their variables -/
/-- rows as tuples that stand -/
def VT (H : Hp) (xs : List V) (rs : List (List Int)) : Prop := xs.length = rs.length ∧ ∀ (i : Nat) (x : V), xs[i]? = some x → ∃ b, x = .ref b ∧ H b = some (.tup ((rs.getD i []).map V.int))
theorem VT.at {H : Hp} {xs : List V} {rs : List (List Int)} (h : VT H xs rs) {i : Nat} {x : V} (e : xs[i]? = some x) : ∃ b r, x = .ref b ∧ rs[i]? = some r ∧ H b = some (.tup (r.map V.int)) := by
  obtain ⟨b, rfl, hb⟩ := h.2 i x e
  have hi : i < rs.length := by rw [← h.1]; exact (List.getElem?_eq_some_iff.mp e).1
  refine ⟨b, rs[i], rfl, List.getElem?_eq_getElem hi, ?_⟩
  rw [List.getD_eq_getElem?_getD, List.getElem?_eq_getElem hi] at hb
  exact hb
theorem VT.same {H H' : Hp} {xs : List V} {rs : List (List Int)} (s : Same H H') (h : VT H xs rs) : VT H' xs rs := ⟨h.1, fun i x e => by
  obtain ⟨b, rfl, hb⟩ := h.2 i x e
  exact ⟨b, rfl, s _ _ hb⟩⟩
theorem VT.va {K : PySem.W.Frag} {H : Hp} {xs : List V} {rs : List (List Int)} (h : VT H xs rs) : VA K H xs rs := ⟨h.1, fun i x e => by
  obtain ⟨b, rfl, hb⟩ := h.2 i x e
  exact ⟨b, rfl, SqT.of hb⟩⟩
theorem VT.nil {H : Hp} : VT H [] [] := ⟨rfl, fun i x e => by simp at e⟩
theorem VT.push {H : Hp} {xs : List V} {rs : List (List Int)} {b : Addr} {r : List Int} (h : VT H xs rs) (hb : H b = some (.tup (r.map V.int))) : VT H (xs ++ [.ref b]) (rs ++ [r]) := by
  refine ⟨by rw [List.length_append, List.length_append, h.1]; rfl, fun i x e => ?_⟩
  rcases Nat.lt_trichotomy i xs.length with q | q | q
  · rw [List.getElem?_append_left q] at e
    obtain ⟨c, rfl, hc⟩ := h.2 i x e
    refine ⟨c, rfl, ?_⟩
    rw [List.getD_eq_getElem?_getD, List.getElem?_append_left (by rw [← h.1]; exact q), ← List.getD_eq_getElem?_getD]
    exact hc
  · rw [q, List.getElem?_concat_length] at e
    cases e
    refine ⟨b, rfl, ?_⟩
    rw [List.getD_eq_getElem?_getD, q, h.1, List.getElem?_concat_length]
    exact hb
  · rw [List.getElem?_eq_none (by rw [List.length_append]; simp; omega)] at e
    cases e
theorem pget2 {α β : Type} {F : α → β → Prop} : ∀ {l₁ : List α} {l₂ : List β} {j : Nat} {x : β}, Paired F l₁ l₂ → l₂[j]? = some x → ∃ y, l₁[j]? = some y ∧ F y x
  | _, _, _, _, .nil, e => by simp at e
  | _, _, 0, _, .cons h _, e => by
    cases e
    exact ⟨_, rfl, h⟩
  | _, _, j + 1, _, .cons _ t, e => pget2 (j := j) t e
/-- rows as keys -/
def keyOf (r : List Int) : List Key := r.map Sum.inl
def unkey (k : List Key) : List Int := k.map fun
  | .inl i => i
  | .inr _ => 0
theorem un_key (r : List Int) : unkey (keyOf r) = r := by
  unfold unkey keyOf
  rw [List.map_map]
  exact List.map_id r
theorem key_v (r : List Int) : (keyOf r).map kV = r.map V.int := by
  unfold keyOf
  rw [List.map_map]
  rfl
theorem mem_put {κ : Type} [DecidableEq κ] {kvs : List (κ × V)} {k : κ} {v : V} {x : κ} : x ∈ (putK kvs k v).map (·.1) ↔ x ∈ kvs.map (·.1) ∨ x = k := by
  unfold putK
  by_cases q : (kvs.any fun kv => decide (kv.1 = k)) = true
  · rw [if_pos q]
    have e : (kvs.map fun kv => if kv.1 = k then (kv.1, v) else kv).map (·.1) = kvs.map (·.1) := by
      rw [List.map_map]
      refine List.map_congr_left fun p _ => ?_
      show (if p.1 = k then (p.1, v) else p).1 = p.1
      split <;> rfl
    rw [e]
    constructor
    · exact .inl
    · rintro (h | rfl)
      · exact h
      · obtain ⟨p, hp, hk⟩ := List.any_eq_true.mp q
        exact List.mem_map.mpr ⟨p, hp, of_decide_eq_true hk⟩
  · rw [if_neg q, List.map_append, List.mem_append]
    simp
/-- the dict's keys are the rows of S -/
def KS (kvs : List (List Key × V)) (S : List (List Int)) : Prop := (∀ k, k ∈ kvs.map (·.1) ↔ k ∈ S.map keyOf) ∧ kvs.length ≤ S.length
theorem KS.nil : KS [] [] := ⟨fun k => by simp, Nat.le_refl _⟩
theorem KS.put {kvs : List (List Key × V)} {S : List (List Int)} {r : List Int} {v : V} (h : KS kvs S) : KS (putK kvs (keyOf r) v) (S ++ [r]) := by
  refine ⟨fun k => ?_, ?_⟩
  · rw [mem_put, h.1, List.map_append, List.mem_append]
    simp
  · have := length_putK kvs (keyOf r) v
    have := h.2
    rw [List.length_append]
    show _ ≤ S.length + 1
    omega
theorem KS.keys {H : Hp} {kvs : List (List Key × V)} {S : List (List Int)} {bs : List Addr} (h : KS kvs S) (hk : IsKeys H kvs bs) : ∃ rs, VT H (bs.map V.ref) rs ∧ (∀ r, r ∈ rs ↔ r ∈ S) ∧ rs.length ≤ S.length := by
  refine ⟨kvs.map fun p => unkey p.1, ⟨by rw [List.length_map, List.length_map]; exact (Paired.length hk).symm, fun i x e => ?_⟩, fun r => ?_, by rw [List.length_map]; exact h.2⟩
  · rw [List.getElem?_map] at e
    obtain ⟨b, eb, rfl⟩ := Option.map_eq_some_iff.mp e
    obtain ⟨p, ep, hp⟩ := pget2 hk eb
    refine ⟨b, rfl, ?_⟩
    have hp : H b = some (.tup (p.1.map kV)) := hp
    have m : p.1 ∈ S.map keyOf := (h.1 _).mp (List.mem_map.mpr ⟨p, List.mem_of_getElem? ep, rfl⟩)
    obtain ⟨r, _, er⟩ := List.mem_map.mp m
    rw [List.getD_eq_getElem?_getD, List.getElem?_map, ep]
    show H b = some (.tup ((unkey p.1).map V.int))
    rw [hp, ← er, un_key, key_v]
  · constructor
    · intro hr
      obtain ⟨p, hp, rfl⟩ := List.mem_map.mp hr
      have m : p.1 ∈ S.map keyOf := (h.1 _).mp (List.mem_map.mpr ⟨p, hp, rfl⟩)
      obtain ⟨r, hr, er⟩ := List.mem_map.mp m
      rw [← er, un_key]
      exact hr
    · intro hr
      have m : keyOf r ∈ kvs.map (·.1) := (h.1 _).mpr (List.mem_map.mpr ⟨r, hr, rfl⟩)
      obtain ⟨p, hp, ep⟩ := List.mem_map.mp m
      exact List.mem_map.mpr ⟨p, hp, by rw [ep, un_key]⟩
/-- the rows without variable at -/
def spWo (K : PySem.W.Frag) : Sp := fun vs H Q _ => ∃ (a : Addr) (m n : Nat) (xs : List V) (rs : List (List Int)), vs = [.ref a, .int (m : Nat)] ∧ SqL K H a xs ∧ VT H xs rs ∧ Ln n rs ∧ m < n ∧ n ≤ 10 ∧ rs.length ≤ 200 ∧ Bds 400 rs ∧
  ∀ (l : Addr) (bs : List Addr) (qs : List (List Int)) (H' : Hp), H' l = some (.lst (bs.map V.ref)) → VT H' (bs.map V.ref) qs → (∀ r, r ∈ qs ↔ r ∈ woF rs m) → qs.length ≤ (woF rs m).length → Same H H' → Q (.ref l) H'
structure BlL (mg : Str → Option Value) : Prop where
  list : mg "list" = none
abbrev nWo : List Str := ["_law_some", "_law_at", "_law_low_here", "_law_high", "_law_found", "_law_row_here", "_law_one_here", "_law_two", "_law_k"]
theorem scWo : FnScope nWo ["_law_some", "_law_at"] (defScope sWo) := ⟨rfl, rfl, rfl, by decide +kernel, rfl, by decide +kernel, by decide +kernel⟩
theorem upd_new {H H1 : Hp} {D : Addr} {o : HO} (s : Same H H1) (n : H D = none) : Same H (upd H1 D o) := fun b u e => by
  rw [upd_ne (ne_of_none e n)]
  exact s b u e
section
variable {P : Program} {w : World} {K : PySem.W.Frag} {mg : Str → Option Value} {base : Heap} {f : Addr} {fd : FuncData}
theorem ok_wo (F : FnP K "_law_without" sWo f fd) (M : Mo mg) (L : BlL mg) : FnOk P w K mg base CX0 1 f fd ["_law_some", "_law_at"] (spWo K) := by
  refine F.ok scWo (fun vs H Q E h => ?_) (fun cdv A outer s H vs Q E hr h => ?_)
  · obtain ⟨a, m, n, xs, rs, rfl, _⟩ := h
    rfl
  · obtain ⟨a, m, n, xs, rs, rfl, hS, hx, lr, hm, n10, l200, hb, k⟩ := h
    have hu := hu_of hr
    refine ⟨_, PSs.nox <| pss_cons (ps_par3 (by rfl) scWo.nd (i := 2) (j := 3) (l := 4) rfl rfl rfl (by decide) (by decide) (by decide) rfl rfl rfl (pa_cons (pe_lstR pa_nil) (pa_cons (pe_lstR pa_nil) (pa_cons pe_dnewT pa_nil))) (by rfl))
      <| pss_cons (ps_for PassesOwn.never rfl (pi_list (pv 0)) (pg_name (i := 5) scWo.nd rfl (.inl rfl))
        (pss_one (ps_if (pt_cmpR op_gt (pe_ix (r := rIxT K) ix_tup (pv 5) (pv 1) (fun _ _ => rfl)) pe_int (nomark _)) (pss_one (ps_expr (pe_bm PySem.F.plainAttrs_list PySem.F.slot_list_append PySem.F.type_list_append mt_append (pv 2) (pa_cons (pv 5) pa_nil))))
          (pss_one (ps_if (pt_cmpR op_lt (pe_ix (r := rIxT K) ix_tup (pv 5) (pv 1) (fun _ _ => rfl)) pe_int (nomark _)) (pss_one (ps_expr (pe_bm PySem.F.plainAttrs_list PySem.F.slot_list_append PySem.F.type_list_append mt_append (pv 3) (pa_cons (pv 5) pa_nil))))
            (pss_one (ps_dput hu (pv 4) (pv 5) pe_bl rfl)))))))
      <| pss_cons (ps_for PassesOwn.never rfl (pi_list (pv 2)) (pg_name (i := 6) scWo.nd rfl (.inr rfl))
        (pss_one (ps_for PassesOwn.never rfl (pi_list (pv 3)) (pg_name (i := 7) scWo.nd rfl (.inr rfl))
          (pss_one (ps_dput hu (pv 4) (pe_callTy call_tuple_of (by rfl) M.tuple (by decide +kernel) (pa_cons (pe_lc (own := [("_law_k", 8)]) (g := gName 8) (tt := tYes) rfl scWo.nd (pi_range1 (by rfl) M.range (pa_cons (pe_callB call_len (by rfl) M.len PySem.boot_len (pa_cons (pv 7) pa_nil)) pa_nil)) (blkOk_by (N := nWo) (sc := defScope sWo) (by decide +kernel)) (fun _ _ _ _ _ => pg_name (i := 8) scWo.nd rfl (Or.inl rfl)) (fun _ _ _ _ _ => pts_nil)
            (fun _ _ _ _ _ => pe_op op_sub (pe_op op_mulW (pe_ix (r := rIxT K) ix_tup (pv 6) (pv 1) (fun _ _ => rfl)) (pe_ix (r := rIxT K) ix_tup (pv 7) (pv 8) (fun _ _ => rfl))) (pe_op op_mulW (pe_ix (r := rIxT K) ix_tup (pv 7) (pv 1) (fun _ _ => rfl)) (pe_ix (r := rIxT K) ix_tup (pv 6) (pv 8) (fun _ _ => rfl))))) pa_nil)) pe_bl rfl)))))
      <| pss_one (ps_ret (pe_callTy (call_list_dT rfl) (by rfl) L.list (by decide +kernel) (pa_cons (pv 4) pa_nil))), ?_⟩
    refine ⟨by show 0 ≤ 1000; decide, fun La H1 n1 => ⟨by show 0 ≤ 1000; decide, fun Lb H2 n2 => fun DD hD => ?_⟩⟩
    have s2 := n1.2.2.trans n2.2.2
    have s3 : Same H (upd H2 DD (.dT [])) := s2.trans (same_new hD)
    have hLa : upd H2 DD (.dT []) La = some (.lst []) := (same_new hD) _ _ (n2.2.2 _ _ n1.2.1)
    have hLb : upd H2 DD (.dT []) Lb = some (.lst []) := (same_new hD) _ _ n2.2.1
    have hDD : upd H2 DD (.dT []) DD = some (.dT []) := upd_same
    have nab : La ≠ Lb := ne_of_none n1.2.1 n2.1
    have nad : La ≠ DD := ne_of_none (n2.2.2 _ _ n1.2.1) hD
    have nbd : Lb ≠ DD := ne_of_none n2.2.1 hD
    have fb : H Lb = none := n1.2.2.free n2.1
    have fd' : H DD = none := s2.free hD
    generalize upd H2 DD (.dT []) = H3 at s3 hLa hLb hDD ⊢
    have row : ∀ {i : Nat} {x : V}, xs[i]? = some x → ∃ b r, x = .ref b ∧ rs[i]? = some r ∧ H b = some (.tup (r.map V.int)) := fun e => hx.at e
    have at_ : ∀ {r : List Int} (j : Nat), r.length = n → j < n → (r.map V.int)[j]? = some (V.int (r.getD j 0)) := fun {r} j lrr hj => by
      rw [List.getElem?_map, List.getD_eq_getElem?_getD, List.getElem?_eq_getElem (by omega)]
      rfl
    refine ⟨_, _, _, rfl, _, rfl, a, rfl, ⟨_, s3.seq hS⟩, for_list (K := K) (a := a) (xs := xs) (fun i σ H' => ∃ (x5 : Option V) (lo hi : List V) (kvs : List (List Key × V)), σ = [some (.ref a), some (.int (m : Nat)), some (.ref La), some (.ref Lb), some (.ref DD), x5, none, none, none] ∧
      H' La = some (.lst lo) ∧ H' Lb = some (.lst hi) ∧ H' DD = some (.dT kvs) ∧ VT H lo (lowR (rs.take i) m) ∧ VT H hi (highR (rs.take i) m) ∧ KS kvs (zeroR (rs.take i) m) ∧ Same H H') ⟨none, [], [], [], rfl, hLa, hLb, hDD, VT.nil, VT.nil, KS.nil, s3⟩ (fun i σ H' _ ⟨_, _, _, _, _, _, _, _, _, _, _, s⟩ => s.seq hS) ?_ ?_⟩
    · rintro i x σ H' ex ⟨x5, lo, hi, kvs, rfl, h1, h2, h3, v1, v2, ks, s'⟩
      obtain ⟨b, r, rfl, er, hbr⟩ := row ex
      have lr1 := lr r (List.mem_of_getElem? er)
      have hi' : i < rs.length := (List.getElem?_eq_some_iff.mp er).1
      have tk : rs.take (i + 1) = rs.take i ++ [r] := by rw [List.take_add_one, er]; rfl
      have fl : ∀ p : List Int → Bool, (rs.take (i + 1)).filter p = (rs.take i).filter p ++ if p r then [r] else [] := fun p => by
        rw [tk, List.filter_append, List.filter_cons, List.filter_nil]
      have lA : (lowR (rs.take i) m).length ≤ 200 := Nat.le_trans (List.length_filter_le _ _) (by rw [List.length_take]; omega)
      have lB : (highR (rs.take i) m).length ≤ 200 := Nat.le_trans (List.length_filter_le _ _) (by rw [List.length_take]; omega)
      have lC : (zeroR (rs.take i) m).length ≤ 200 := Nat.le_trans (List.length_filter_le _ _) (by rw [List.length_take]; omega)
      have hbr' := s' _ _ hbr
      refine ⟨_, rfl, _, rfl, b, _, (m : Nat), _, rfl, rfl, SqT.of hbr', atI_nat (at_ m lr1 hm), _, _, rfl, rfl, _, rfl, ?_⟩
      refine ite2 (fun hc => ?_) (fun hc => ?_)
      · have c : 0 < r.getD m 0 := of_decide_eq_true hc
        have eA : lowR (rs.take (i + 1)) m = lowR (rs.take i) m ++ [r] := by
          unfold lowR
          rw [fl, if_pos (decide_eq_true c)]
        have eB : highR (rs.take (i + 1)) m = highR (rs.take i) m := by
          unfold highR
          rw [fl, if_neg (fun h => by have := of_decide_eq_true h; omega), List.append_nil]
        have eC : zeroR (rs.take (i + 1)) m = zeroR (rs.take i) m := by
          unfold zeroR
          rw [fl, if_neg (fun h => by have := of_decide_eq_true h; omega), List.append_nil]
        refine ⟨_, rfl, .inl ⟨rfl, _, SqL.of h1⟩, _, rfl, La, _, _, rfl, rfl, h1, small1000 (by rw [v1.1]; omega), ?_⟩
        rw [eA, eB, eC]
        exact ⟨_, _, _, _, rfl, upd_same, by rw [upd_ne nab.symm]; exact h2, by rw [upd_ne nad.symm]; exact h3, v1.push hbr, v2, ks, upd_new s' n1.1⟩
      · have c : ¬ 0 < r.getD m 0 := fun h => hc (decide_eq_true h)
        have eA : lowR (rs.take (i + 1)) m = lowR (rs.take i) m := by
          unfold lowR
          rw [fl, if_neg (fun h => c (of_decide_eq_true h)), List.append_nil]
        refine ⟨_, rfl, _, rfl, b, _, (m : Nat), _, rfl, rfl, SqT.of hbr', atI_nat (at_ m lr1 hm), _, _, rfl, rfl, _, rfl, ?_⟩
        refine ite2 (fun hc2 => ?_) (fun hc2 => ?_)
        · have c2 : r.getD m 0 < 0 := of_decide_eq_true hc2
          have eB : highR (rs.take (i + 1)) m = highR (rs.take i) m ++ [r] := by
            unfold highR
            rw [fl, if_pos (decide_eq_true c2)]
          have eC : zeroR (rs.take (i + 1)) m = zeroR (rs.take i) m := by
            unfold zeroR
            rw [fl, if_neg (fun h => by have := of_decide_eq_true h; omega), List.append_nil]
          refine ⟨_, rfl, .inl ⟨rfl, _, SqL.of h2⟩, _, rfl, Lb, _, _, rfl, rfl, h2, small1000 (by rw [v2.1]; omega), ?_⟩
          rw [eA, eB, eC]
          exact ⟨_, _, _, _, rfl, by rw [upd_ne nab]; exact h1, upd_same, by rw [upd_ne nbd.symm]; exact h3, v1, v2.push hbr, ks, upd_new s' fb⟩
        · have c2 : ¬ r.getD m 0 < 0 := fun h => hc2 (decide_eq_true h)
          have eB : highR (rs.take (i + 1)) m = highR (rs.take i) m := by
            unfold highR
            rw [fl, if_neg (fun h => c2 (of_decide_eq_true h)), List.append_nil]
          have eC : zeroR (rs.take (i + 1)) m = zeroR (rs.take i) m ++ [r] := by
            unfold zeroR
            rw [fl, if_pos (decide_eq_true (by omega))]
          refine ⟨_, rfl, _, rfl, DD, _, rfl, DPut.t (k := keyOf r) h3 (by rw [key_v]; exact hbr') (small1000 (by have := ks.2; omega)), ?_⟩
          rw [eA, eB, eC]
          exact ⟨_, _, _, _, rfl, by rw [upd_ne nad]; exact h1, by rw [upd_ne nbd]; exact h2, upd_same, v1, v2, ks.put, upd_new s' fd'⟩
    · rintro σ H4 ⟨x5, lo, hi, kvs, rfl, h1, h2, h3, v1, v2, ks, s4⟩
      rw [hx.1, List.take_length] at v1 v2 ks
      have lls : (lowR rs m).length ≤ 200 := Nat.le_trans (List.length_filter_le _ _) l200
      have lhs : (highR rs m).length ≤ 200 := Nat.le_trans (List.length_filter_le _ _) l200
      have lzs : (zeroR rs m).length ≤ 200 := Nat.le_trans (List.length_filter_le _ _) l200
      have bit : ∀ r ∈ rs, ∀ j, (r.getD j 0).natAbs < 2 ^ 400 := fun r hr j => by
        rw [List.getD_eq_getElem?_getD]
        cases ej : r[j]? with
        | none => exact Nat.pow_pos (by decide)
        | some z => exact hb r hr z (List.mem_of_getElem? ej)
      have p32 : 40000 < sizeLine := by decide
      refine ⟨_, rfl, La, rfl, ⟨_, SqL.of h1⟩, for_list (K := K) (a := La) (xs := lo) (fun i σ H' => ∃ (x5 x6 x7 : Option V) (kvs : List (List Key × V)), σ = [some (.ref a), some (.int (m : Nat)), some (.ref La), some (.ref Lb), some (.ref DD), x5, x6, x7, none] ∧
        H' La = some (.lst lo) ∧ H' Lb = some (.lst hi) ∧ H' DD = some (.dT kvs) ∧ KS kvs (zeroR rs m ++ ((lowR rs m).take i).flatMap fun r => (highR rs m).map fun h => pairF m r h) ∧ Same H H') ⟨_, none, none, _, rfl, h1, h2, h3, by rw [List.take_zero, List.flatMap_nil, List.append_nil]; exact ks, s4⟩ (fun i σ H' _ ⟨_, _, _, _, _, q, _⟩ => SqL.of q) ?_ ?_⟩
      · rintro i x σ H5 ex ⟨y5, y6, y7, kv5, rfl, g1, g2, g3, ks5, s5⟩
        obtain ⟨b, r, rfl, er, hbr⟩ := v1.at ex
        have hr := Dd.mem_low.mp (List.mem_of_getElem? er)
        have lr1 := lr r hr.1
        have hi5 : i < (lowR rs m).length := (List.getElem?_eq_some_iff.mp er).1
        have tk : (lowR rs m).take (i + 1) = (lowR rs m).take i ++ [r] := by rw [List.take_add_one, er]; rfl
        refine ⟨_, rfl, Lb, rfl, ⟨_, SqL.of g2⟩, for_list (K := K) (a := Lb) (xs := hi) (fun j σ H' => ∃ (x7 : Option V) (kvs : List (List Key × V)), σ = [some (.ref a), some (.int (m : Nat)), some (.ref La), some (.ref Lb), some (.ref DD), y5, some (.ref b), x7, none] ∧
          H' La = some (.lst lo) ∧ H' Lb = some (.lst hi) ∧ H' DD = some (.dT kvs) ∧ KS kvs ((zeroR rs m ++ ((lowR rs m).take i).flatMap fun r => (highR rs m).map fun h => pairF m r h) ++ ((highR rs m).take j).map fun h => pairF m r h) ∧ Same H H') ⟨_, _, rfl, g1, g2, g3, by rw [List.take_zero, List.map_nil, List.append_nil]; exact ks5, s5⟩ (fun j σ H' _ ⟨_, _, _, _, q, _⟩ => SqL.of q) ?_ ?_⟩
        · rintro j x σ H6 ex2 ⟨z7, kv6, rfl, f1, f2, f3, ks6, s6⟩
          obtain ⟨c, t, rfl, et, hct⟩ := v2.at ex2
          have ht := Dd.mem_high.mp (List.mem_of_getElem? et)
          have lt1 := lr t ht.1
          have hj6 : j < (highR rs m).length := (List.getElem?_eq_some_iff.mp et).1
          have hb6 := s6 _ _ hbr
          have hc6 := s6 _ _ hct
          refine ⟨_, rfl, _, rfl, _, (t.map V.int).length, rfl, .inr ⟨_, SqT.of hc6, rfl⟩, _, rfl, by rw [List.length_map]; omega, by rw [List.length_map]; omega, fun D hD6 => ?_⟩
          refine lc_range (lo := 0) (n := (((t.map V.int).length : Nat) : Int).toNat) (fun q H' => H' D = some (.lst ((List.range q).map fun (k : Nat) => V.int (r.getD m 0 * t.getD k 0 - t.getD m 0 * r.getD k 0))) ∧ Same H6 H') ⟨upd_same, same_new hD6⟩ ?_ ?_
          · rintro q H7 hq ⟨h7, s7⟩
            have hq2 : q < n := by
              rw [List.length_map] at hq
              omega
            have hb7 := SqT.of (K := K) (s7 _ _ hb6)
            have hc7 := SqT.of (K := K) (s7 _ _ hc6)
            have zi : (0 : Int) + (q : Int) = (q : Int) := Int.zero_add _
            refine ⟨rfl, _, rfl, _, rfl, b, _, (m : Nat), _, rfl, rfl, hb7, atI_nat (at_ m lr1 hm), _, rfl, _, rfl, c, _, _, _, rfl, rfl, hc7, (by rw [zi]; exact atI_nat (at_ q lt1 hq2)), _, _, rfl, rfl, wide_mul (a := 400) (b := 400) (bit r hr.1 m) (bit t ht.1 q) (by decide) (by decide) (by decide),
              _, rfl, _, rfl, c, _, (m : Nat), _, rfl, rfl, hc7, atI_nat (at_ m lt1 hm), _, rfl, _, rfl, b, _, _, _, rfl, rfl, hb7, (by rw [zi]; exact atI_nat (at_ q lr1 hq2)), _, _, rfl, rfl, wide_mul (a := 400) (b := 400) (bit t ht.1 m) (bit r hr.1 q) (by decide) (by decide) (by decide), _, _, rfl, rfl, _, h7, small1000 (by rw [List.length_map, List.length_range]; omega), ?_, upd_new s7 hD6⟩
            rw [upd_same, List.range_succ, List.map_append]
            rfl
          · rintro H7 ⟨h7, s7⟩
            refine ⟨D, _, rfl, .inl ⟨SqL.of h7, fun T nT => ?_⟩⟩
            have sT := same_new (o := .tup ((List.range (((t.map V.int).length : Nat) : Int).toNat).map fun (k : Nat) => V.int (r.getD m 0 * t.getD k 0 - t.getD m 0 * r.getD k 0))) nT
            have hT : upd H7 T (.tup ((List.range (((t.map V.int).length : Nat) : Int).toNat).map fun (k : Nat) => V.int (r.getD m 0 * t.getD k 0 - t.getD m 0 * r.getD k 0))) T = some (.tup ((keyOf (pairF m r t)).map kV)) := by
              rw [upd_same, key_v]
              unfold pairF Dd.combF
              rw [List.map_map, Int.toNat_natCast, List.length_map]
              rfl
            have s67 := s7.trans sT
            generalize upd H7 T (.tup ((List.range (((t.map V.int).length : Nat) : Int).toNat).map fun (k : Nat) => V.int (r.getD m 0 * t.getD k 0 - t.getD m 0 * r.getD k 0))) = H8 at hT s67 ⊢
            have f3' := s67 _ _ f3
            refine ⟨DD, _, rfl, DPut.t (k := keyOf (pairF m r t)) f3' hT (Nat.lt_of_le_of_lt ks6.2 ?_), ?_⟩
            · rw [List.length_append, List.length_append, Dd.flat_len, List.length_take, List.length_map, List.length_take]
              have h1 : min i (lowR rs m).length * (highR rs m).length ≤ 199 * 200 := Nat.mul_le_mul (by omega) lhs
              have : sizeLine = 16777216 := sizeLine_eq
              omega
            · have tkj : (highR rs m).take (j + 1) = (highR rs m).take j ++ [t] := by rw [List.take_add_one, et]; rfl
              rw [tkj, List.map_append, ← List.append_assoc]
              exact ⟨_, _, rfl, by rw [upd_ne nad]; exact s67 _ _ f1, by rw [upd_ne nbd]; exact s67 _ _ f2, upd_same, ks6.put, upd_new (s6.trans s67) fd'⟩
        · rintro σ H6 ⟨z7, kv6, rfl, f1, f2, f3, ks6, s6⟩
          refine ⟨_, _, _, _, rfl, f1, f2, f3, ?_, s6⟩
          rw [v2.1, List.take_length, List.append_assoc] at ks6
          rw [tk, List.flatMap_append, List.flatMap_cons, List.flatMap_nil, List.append_nil]
          exact ks6
      · rintro σ H5 ⟨y5, y6, y7, kv5, rfl, g1, g2, g3, ks5, s5⟩
        rw [v1.1, List.take_length] at ks5
        refine ⟨_, rfl, DD, kv5, rfl, .inl g3, fun l bs nl hk => ?_⟩
        obtain ⟨qs, vq, mq, lq⟩ := ks5.keys hk
        exact k l bs qs _ upd_same (vq.same (same_new nl)) mq lq (upd_new s5 (s5.free nl))
end
end K5
set_option Elab.async false
set_option linter.all false
set_option maxRecDepth 100000
set_option maxHeartbeats 8000000
namespace Nu
open PySem PySem.Spec PyProof.Rows L2 TL
/-! whole numbers as texts -/
def numS (i : Int) : Str := Str.ofString (toString i)
theorem tl_neg (n : Nat) : tl (numS (Int.negSucc n)) = 45 :: numL (n + 1) := by
  unfold numS
  rw [tl_ofString]
  show ("-" ++ Nat.repr (n + 1)).toList.map Char.toNat = _
  rw [String.toList_append, List.map_append, Nat.toList_repr]
  rfl
theorem tl_pos (n : Nat) : tl (numS (Int.ofNat n)) = numL n := tl_num n
theorem num_signs (i : Int) : ∀ c ∈ tl (numS i), c = 45 ∨ (48 ≤ c ∧ c ≤ 57) := by
  intro c hc
  cases i with
  | ofNat n =>
    rw [tl_pos] at hc
    exact .inr (numL_digits n c hc)
  | negSucc n =>
    rw [tl_neg] at hc
    rcases List.mem_cons.mp hc with h | h
    · exact .inl h
    · exact .inr (numL_digits _ c h)
theorem num_free {s : Nat} (i : Int) (h : s < 45 ∨ 57 < s) : s ∉ tl (numS i) := fun hm => by
  have := num_signs i s hm
  omega
theorem num_ne (i : Int) : tl (numS i) ≠ [] := by
  cases i with
  | ofNat n =>
    rw [tl_pos]
    exact numL_ne n
  | negSucc n =>
    rw [tl_neg]
    exact fun h => by cases h
theorem num_len {i : Int} (h : -1000000 ≤ i ∧ i ≤ 1000000) : (numS i).length ≤ 8 := by
  rw [len_tl]
  cases i with
  | ofNat n =>
    rw [tl_pos]
    have h2 : Int.ofNat n = (n : Int) := rfl
    exact Nat.le_trans (numL_len (n := n) (k := 7) (by decide) (by omega)) (by decide)
  | negSucc n =>
    rw [tl_neg, List.length_cons]
    have h2 : n + 1 < 10 ^ 7 := by
      have := h.1
      omega
    have := numL_len (n := n + 1) (k := 7) (by decide) h2
    omega
theorem num_read {i : Int} (h : -1000000 ≤ i ∧ i ≤ 1000000) : intText? (numS i) = some i := by
  have hl := num_len h
  cases i with
  | ofNat n =>
    have e := PySem.intText_digits (x := numS (Int.ofNat n)) (by
      have := tl_pos n
      unfold TL.tl at this
      rw [this]
      exact numL_digits n) (num_ne _) (by omega)
    rw [e]
    have := tl_pos n
    unfold TL.tl at this
    rw [this, numL_val]
    rfl
  | negSucc n =>
    have e := PySem.intText_neg (x := numS (Int.negSucc n)) (tl_neg n) (numL_digits _) (numL_ne _) (by omega)
    rw [e, numL_val]
    rfl
theorem num_log {i : Int} (h : -1000000 ≤ i ∧ i ≤ 1000000) : i.natAbs.log2 < 1920 := by
  have h1 : i.natAbs < 2 ^ 20 := by
    have : (2 : Nat) ^ 20 = 1048576 := by decide
    omega
  by_cases h0 : i.natAbs = 0
  · rw [h0]
    decide
  · have := (Nat.log2_lt h0).mpr h1
    omega
end Nu
set_option Elab.async false
set_option linter.all false
set_option maxRecDepth 100000
set_option maxHeartbeats 8000000
namespace Sz
open PySem PySem.Spec PyProof.Rows L2 TL Nu
/-! how long shown data is at most -/
theorem len_ap (x y : Str) : (x ++ y).length = x.length + y.length := by
  rw [len_tl, tl_append, List.length_append, ← len_tl, ← len_tl]
theorem sums_le {l : List Nat} {b : Nat} (h : ∀ x ∈ l, x ≤ b) : l.sum ≤ l.length * b := by
  induction l with
  | nil => simp
  | cons a l ih =>
    rw [List.sum_cons, List.length_cons, Nat.succ_mul]
    have h1 := h a (List.mem_cons_self ..)
    have h2 := ih fun x hx => h x (List.mem_cons_of_mem _ hx)
    omega
theorem sep_le (k : Nat) : ((if k > 0 then ", " else "" : String) : Str).length ≤ 2 := by
  split <;> decide +kernel
theorem from_le : ∀ (ts : List Str) (k : Nat) (acc : Str), (textFrom k acc ts).length ≤ acc.length + (ts.map (·.length)).sum + 2 * ts.length
  | [], k, acc => by
    show acc.length ≤ _
    omega
  | t :: r, k, acc => by
    have ih := from_le r (k + 1) (acc ++ (if k > 0 then ", " else "" : String) ++ t)
    have e : textFrom k acc (t :: r) = textFrom (k + 1) (acc ++ (if k > 0 then ", " else "" : String) ++ t) r := rfl
    rw [e]
    rw [len_ap, len_ap] at ih
    have := sep_le k
    rw [List.map_cons, List.sum_cons, List.length_cons]
    omega
theorem list_le (ts : List Str) : (listText ts).length ≤ (ts.map (·.length)).sum + 2 * ts.length + 2 := by
  unfold listText
  rw [len_ap]
  have := from_le ts 0 "["
  have e1 : ("[" : Str).length = 1 := by decide +kernel
  have e2 : ("]" : Str).length = 1 := by decide +kernel
  rw [e1] at this
  rw [e2]
  omega
theorem join_le (y : Str) : ∀ ps : List Str, (Str.join y ps).length ≤ (ps.map (·.length)).sum + ps.length * y.length
  | [] => Nat.zero_le _
  | [p] => by
    show p.length ≤ _
    simp
  | p :: q :: r => by
    have ih := join_le y (q :: r)
    have e : Str.join y (p :: q :: r) = p ++ y ++ Str.join y (q :: r) := rfl
    rw [e, len_ap, len_ap, List.map_cons, List.sum_cons, List.length_cons, Nat.succ_mul]
    omega
theorem tup_le (ts : List Str) : (tupleText ts).length ≤ (ts.map (·.length)).sum + 2 * ts.length + 3 := by
  unfold tupleText
  rw [len_ap, len_ap]
  have := join_le ", " ts
  have e1 : ("(" : Str).length = 1 := by decide +kernel
  have e2 : (", " : Str).length = 2 := by decide +kernel
  have e3 : ((if ts.length == 1 then ",)" else ")" : String) : Str).length ≤ 2 := by
    split <;> decide +kernel
  rw [e2] at this
  rw [e1]
  omega
/-- shown in at most n signs, at most k deep -/
structure Sh (d : PyData) (n k : Nat) : Prop where
  len : d.shown.length ≤ n
  sh : d.showable = true
  dp : d.depth ≤ k
theorem Sh.mono {d : PyData} {n k n2 k2 : Nat} (h : Sh d n k) (a : n ≤ n2) (b : k ≤ k2) : Sh d n2 k2 := ⟨Nat.le_trans h.len a, h.sh, Nat.le_trans h.dp b⟩
theorem all_len : ∀ ds : List PyData, (PyData.shownAll ds).length = ds.length
  | [] => by simp only [PyData.shownAll]; rfl
  | d :: ds => by
    simp only [PyData.shownAll, List.length_cons, all_len ds]
theorem all_mem : ∀ {ds : List PyData} {t : Str}, t ∈ PyData.shownAll ds → ∃ d ∈ ds, t = d.shown
  | [], t, h => by
    simp only [PyData.shownAll] at h
    cases h
  | d :: ds, t, h => by
    simp only [PyData.shownAll] at h
    rcases List.mem_cons.mp h with rfl | h
    · exact ⟨d, List.mem_cons_self .., rfl⟩
    · obtain ⟨e, he, q⟩ := all_mem h
      exact ⟨e, List.mem_cons_of_mem _ he, q⟩
theorem all_sum {ds : List PyData} {n : Nat} (h : ∀ d ∈ ds, d.shown.length ≤ n) : ((PyData.shownAll ds).map (·.length)).sum ≤ ds.length * n := by
  have q := sums_le (l := (PyData.shownAll ds).map (·.length)) (b := n) fun x hx => by
    obtain ⟨t, ht, rfl⟩ := List.mem_map.mp hx
    obtain ⟨d, hd, rfl⟩ := all_mem ht
    exact h d hd
  rw [List.length_map, all_len] at q
  exact q
theorem all_show : ∀ {ds : List PyData}, (∀ d ∈ ds, d.showable = true) → PyData.showableAll ds = true
  | [], _ => rfl
  | d :: ds, h => by
    simp only [PyData.showableAll, h d (List.mem_cons_self ..), all_show fun e he => h e (List.mem_cons_of_mem _ he)]
    rfl
theorem sh_int {i : Int} (h : -1000000 ≤ i ∧ i ≤ 1000000) : Sh (.int i) 8 1 := by
  refine ⟨?_, ?_, ?_⟩
  · simp only [PyData.shown]
    exact num_len h
  · simp only [PyData.showable]
    exact decide_eq_true (num_log h)
  · simp only [PyData.depth]
    decide
theorem sh_str {z : Str} {n : Nat} (h : ∀ c ∈ z.cps.toList, c < 16 ^ 8) (hn : z.length ≤ n) : Sh (.str z) (10 * n + 2) 1 := by
  refine ⟨?_, ?_, ?_⟩
  · simp only [PyData.shown]
    have := StrLaws.reprText_len z h
    omega
  · simp only [PyData.showable]
  · simp only [PyData.depth]
    decide
theorem sh_bool (b : Bool) : Sh (.bool b) 5 1 := by
  cases b <;> exact ⟨by decide +kernel, by simp only [PyData.showable], by simp only [PyData.depth]; decide⟩
theorem all_deep : ∀ {ds : List PyData} {k : Nat}, (∀ d ∈ ds, d.depth ≤ k) → PyData.depthAll ds ≤ k
  | [], k, _ => by
    simp only [PyData.depthAll]
    exact Nat.zero_le _
  | d :: ds, k, h => by
    have h1 := h d (List.mem_cons_self ..)
    have h2 := all_deep fun e he => h e (List.mem_cons_of_mem _ he)
    simp only [PyData.depthAll]
    omega
theorem sh_tup {ds : List PyData} {n k : Nat} (h : ∀ d ∈ ds, Sh d n k) : Sh (.tuple ds) (ds.length * (n + 2) + 3) (k + 1) := by
  refine ⟨?_, ?_, ?_⟩
  · simp only [PyData.shown]
    have h1 := tup_le (PyData.shownAll ds)
    have h2 := all_sum fun d hd => (h d hd).len
    rw [all_len] at h1
    rw [Nat.mul_add]
    omega
  · simp only [PyData.showable]
    exact all_show fun d hd => (h d hd).sh
  · have := all_deep fun d hd => (h d hd).dp
    simp only [PyData.depth]
    omega
theorem sh_lst {ds : List PyData} {n k : Nat} (h : ∀ d ∈ ds, Sh d n k) : Sh (.list ds) (ds.length * (n + 2) + 2) (k + 1) := by
  refine ⟨?_, ?_, ?_⟩
  · simp only [PyData.shown]
    have h1 := list_le (PyData.shownAll ds)
    have h2 := all_sum fun d hd => (h d hd).len
    rw [all_len] at h1
    rw [Nat.mul_add]
    omega
  · simp only [PyData.showable]
    exact all_show fun d hd => (h d hd).sh
  · have := all_deep fun d hd => (h d hd).dp
    simp only [PyData.depth]
    omega
end Sz
set_option Elab.async false
set_option linter.all false
set_option maxRecDepth 100000
set_option maxHeartbeats 8000000
set_option exponentiation.threshold 20000
namespace Sz
open PySem PySem.Spec PyProof.Rows L2 TL Nu
/-! great whole numbers, shown -/
theorem num_lenB {i : Int} {k : Nat} (k0 : 0 < k) (h : i.natAbs < 10 ^ k) : (numS i).length ≤ k + 1 := by
  rw [len_tl]
  cases i with
  | ofNat n =>
    rw [tl_pos]
    exact Nat.le_trans (numL_len (n := n) (k := k) k0 h) (Nat.le_succ _)
  | negSucc n =>
    rw [tl_neg, List.length_cons]
    have := numL_len (n := n + 1) (k := k) k0 h
    omega
theorem num_logB {i : Int} (h : i.natAbs < 2 ^ 1920) : i.natAbs.log2 < 1920 := by
  by_cases h0 : i.natAbs = 0
  · rw [h0]
    exact Nat.lt_of_lt_of_le (show Nat.log2 0 < 1 by decide) (by decide)
  · exact (Nat.log2_lt h0).mpr h
theorem sh_743 {i : Int} (h : i.natAbs < 2 ^ 743) : Sh (.int i) 745 1 := by
  refine ⟨?_, ?_, ?_⟩
  · simp only [PyData.shown]
    exact num_lenB (k := 744) (by decide) (Nat.lt_of_lt_of_le h (Nat.le_trans (Nat.pow_le_pow_left (by decide) 743) (Nat.pow_le_pow_right (by decide) (by decide))))
  · simp only [PyData.showable]
    exact decide_eq_true (num_logB (Nat.lt_of_lt_of_le h (Nat.pow_le_pow_right (by decide) (by decide))))
  · simp only [PyData.depth]
    decide
theorem sh_pair {p q : Int} (hp : p.natAbs < 2 ^ 743) (hq : q.natAbs < 2 ^ 743) : Sh (Pg.fD [p, q]) 1600 2 := by
  have h := sh_tup (ds := [PyData.int p, PyData.int q]) (n := 745) (k := 1) fun d hd => by
    simp only [List.mem_cons, List.not_mem_nil, or_false] at hd
    rcases hd with rfl | rfl
    · exact sh_743 hp
    · exact sh_743 hq
  exact h.mono (by show 2 * (745 + 2) + 3 ≤ 1600; decide) (by decide)
theorem sh_none : Sh .none 1600 2 := ⟨by decide +kernel, by decide +kernel, by decide +kernel⟩
theorem sh_endless : Sh (.str "endless") 1600 2 := ⟨by decide +kernel, by decide +kernel, by decide +kernel⟩
end Sz
set_option Elab.async false
set_option linter.all false
set_option maxRecDepth 100000
set_option maxHeartbeats 8000000
set_option exponentiation.threshold 20000
namespace L2
open PySem PySem.Spec PyProof.Rows
def rNeE (K : PySem.W.Frag) : R2 := fun x y H Q => ∃ a b xs, x = .ref a ∧ y = .ref b ∧ SqL K H a xs ∧ SqL K H b [] ∧ Q (.bl (!xs.isEmpty)) H
section
variable {X : Cx}
theorem op_neE (hu : X.A.units + 64 < cLine) : OpR X (compareOp .NotEq) (rNeE X.K) := by
  intro pins s σ H x y v u Q I rx ry h
  obtain ⟨a, b, xs, rfl, rfl, ha, hb, q⟩ := h
  cases xs with
  | nil =>
    exact op_neD hu pins s σ H _ _ _ _ Q I rx ry ⟨.list [], .list [], .lst ha .nil, .lst hb .nil, by decide +kernel, by decide +kernel, q⟩
  | cons z zs =>
    cases rx
    cases ry
    obtain ⟨ia, ra, ⟨oa, na, ha1, ha2, _, ha3⟩, _⟩ := I.list ha
    obtain ⟨ib, rb, ⟨ob, nb, hb1, hb2, _, hb3⟩, _⟩ := I.list hb
    cases rb
    cases ra with
    | cons r1 r2 =>
    exact EqBoolInt.of_rcne (SeqAt.RcNeAt.lists_lengths ⟨oa, ha1, ha2, na, ha3⟩ ⟨ob, hb1, hb2, nb, hb3⟩ (by simp) (by omega)) ⟨.bl true, H, I, rfl, q⟩
end
end L2
namespace K5
open PySem PySem.Spec PyProof.Rows L2 Gd Rl
open Pg (Mo VA fD iteDN iteDY)
open Dd (Bd Bds Ln lowR highR zeroR pairF woF rowT rowS rows0 FmI reachF endF lowF bestF valsF arrF)
abbrev sLo : Stmt := top 30
def rListOf (K : PySem.W.Frag) : List V → Hp → VK → Prop := fun xs H Q => ∃ p ys, xs = [.ref p] ∧ (SqL K H p ys ∨ SqT K H p ys) ∧ ∀ l, H l = none → Q (.ref l) (upd H l (.lst ys))
/-- the answer as data -/
def ansD (n : Nat) (ts : List (List Int)) (g : List Int) : PyData := if reachF (arrF n ts) = true then (if endF (arrF n ts) g = [] then fD (lowF (bestF (valsF (arrF n ts) g))) else .str "endless") else .none
theorem ansD_no {n : Nat} {ts : List (List Int)} {g : List Int} (h : reachF (arrF n ts) = false) : ansD n ts g = .none := by
  unfold ansD
  rw [if_neg (by rw [h]; decide)]
theorem ansD_end {n : Nat} {ts : List (List Int)} {g : List Int} (h : reachF (arrF n ts) = true ∧ endF (arrF n ts) g ≠ []) : ansD n ts g = .str "endless" := by
  unfold ansD
  rw [if_pos h.1, if_neg h.2]
theorem ansD_val {n : Nat} {ts : List (List Int)} {g : List Int} {p q : Int} (h : reachF (arrF n ts) = true ∧ endF (arrF n ts) g = [] ∧ lowF (bestF (valsF (arrF n ts) g)) = [p, q]) : ansD n ts g = fD [p, q] := by
  unfold ansD
  rw [if_pos h.1, if_pos h.2.1, h.2.2]
def spLo (K : PySem.W.Frag) : Sp := fun vs H Q _ => ∃ (a u : Addr) (xs : List V) (ts : List (List Int)) (g : List Int) (m : Nat), vs = [.ref a, .ref u] ∧ SqL K H a xs ∧ VA K H xs ts ∧ SqT K H u (g.map V.int) ∧ Ln (m + 1) ts ∧ g.length = m + 1 ∧ 1 ≤ m ∧ m ≤ 3 ∧ ts.length ≤ 6 ∧ Bds 92 ts ∧ Bd 92 g ∧
  ∀ v H', Same H H' → Dp K H' v (ansD (m + 1) ts g) → Sz.Sh (ansD (m + 1) ts g) 1600 2 → Q v H'
abbrev nLo : List Str := ["_law_tests", "_law_shape", "_law_size", "_law_some", "_law_at", "_law_row_here", "_law_best", "_law_top", "_law_bottom", "_law_by", "_law_test", "_law_part"]
theorem scLo : FnScope nLo ["_law_tests", "_law_shape"] (defScope sLo) := ⟨rfl, rfl, rfl, by decide +kernel, rfl, by decide +kernel, by decide +kernel⟩
theorem VT.updL {H : Hp} {xs : List V} {rs : List (List Int)} {D : Addr} {zs : List V} {o : HO} (hD : H D = some (.lst zs)) (h : VT H xs rs) : VT (upd H D o) xs rs := ⟨h.1, fun i x e => by
  obtain ⟨b, rfl, hb⟩ := h.2 i x e
  refine ⟨b, rfl, ?_⟩
  rw [upd_ne (fun q => by rw [q, hD] at hb; cases hb)]
  exact hb⟩
theorem cut_m {xs : List V} {m : Nat} (h : xs.length = m + 1) : cutV xs none (some (m : Int)) = xs.take m := by
  have e1 : HT.sIx xs.length xs.length (some (m : Int)) = m := by rw [HT.sIx_nat]; omega
  have e0 : HT.sIx xs.length 0 none = 0 := rfl
  unfold cutV
  rw [e1, e0, List.drop_zero, Nat.sub_zero]
theorem not_all {xs : List V} {m : Nat} (h : xs.length = m + 1) : ¬ (HT.sIx xs.length 0 none = 0 ∧ HT.sIx xs.length xs.length (some (m : Int)) = xs.length) := fun q => by
  have e1 : HT.sIx xs.length xs.length (some (m : Int)) = m := by rw [HT.sIx_nat]; omega
  have := q.2
  omega
theorem kept_empty {b : Nat → Bool} : ∀ {n : Nat}, (kept b n).length = 0 ↔ ∀ i, i < n → b i = false := by
  intro n
  constructor
  · intro h i hi
    cases q : b i with
    | false => rfl
    | true =>
      have : i ∈ kept b n := List.mem_filter.mpr ⟨List.mem_range.mpr hi, q⟩
      rw [List.length_eq_zero_iff.mp h] at this
      cases this
  · intro h
    apply List.length_eq_zero_iff.mpr
    apply List.filter_eq_nil_iff.mpr
    intro i hi q
    rw [h i (List.mem_range.mp hi)] at q
    cases q
/-- the tightest bound so far -/
def BestV (K : PySem.W.Frag) (m : Nat) (rs : List (List Int)) (H : Hp) (v : V) : Prop := (v = .str "endless" ∧ ∀ r ∈ rs, ¬ 0 < r.getD m 0) ∨
  ∃ (b : Addr) (s : List Int), v = .ref b ∧ s ∈ rs ∧ 0 < s.getD m 0 ∧ SqT K H b [.int (0 - s.getD (m + 1) 0), .int (s.getD m 0)] ∧ ∀ r ∈ rs, 0 < r.getD m 0 → (0 - r.getD (m + 1) 0) * s.getD m 0 ≤ (0 - s.getD (m + 1) 0) * r.getD m 0
theorem eqv_txt (z : Str) : PyData.eqv (.str z) (.str z) = true := SeqAt.eqv_refl_plain _ (by rw [PyData.plain])
theorem eqv_tt (ds : List PyData) (z : Str) : PyData.eqv (.tuple ds) (.str z) = false := by
  cases e : PyData.eqv (.tuple ds) (.str z) with
  | false => rfl
  | true => simp [PyData.eqv] at e
theorem pl_txt (z : Str) : PyData.plain (.str z) = true := by rw [PyData.plain]
theorem dp_txt (z : Str) : PyData.depth (.str z) ≤ 64 := by rw [PyData.depth]; decide
theorem big743 {x : Int} (h : x.natAbs < 2 ^ 743) : x.natAbs < 10 ^ 1000 := Nat.lt_of_lt_of_le h (Nat.le_trans (show 2 ^ 743 ≤ 10 ^ 743 from Nat.pow_le_pow_left (by decide) 743) (Nat.pow_le_pow_right (by decide) (by decide)))
theorem gcd_fit743 {x y : Int} (hy : 0 < y) (h : y.natAbs < 2 ^ 743) : 0 < ((Nat.gcd x.natAbs y.natAbs : Nat) : Int) ∧ ((Nat.gcd x.natAbs y.natAbs : Nat) : Int).natAbs < 2 ^ 743 := by
  have p : 0 < Nat.gcd x.natAbs y.natAbs := Nat.gcd_pos_of_pos_right _ (by omega)
  have l : Nat.gcd x.natAbs y.natAbs ≤ y.natAbs := Nat.gcd_le_right _ (by omega)
  omega
def LB : Nat → Nat
  | 0 => 7
  | 1 => 19
  | 2 => 109
  | _ => 3079
def BB : Nat → Nat
  | 0 => 92
  | 1 => 185
  | 2 => 371
  | _ => 743
theorem lb_next {i a l : Nat} (h3 : i < 3) (hl : l ≤ LB i) (h : 4 * a ≤ 4 * l + l * l) : a ≤ LB (i + 1) := by
  have h2 : l * l ≤ LB i * LB i := Nat.mul_le_mul hl hl
  match i, h3 with
  | 0, _ =>
    have e : LB 0 = 7 := rfl
    have e2 : LB (0 + 1) = 19 := rfl
    rw [e] at hl h2
    rw [e2]
    omega
  | 1, _ =>
    have e : LB 1 = 19 := rfl
    have e2 : LB (1 + 1) = 109 := rfl
    rw [e] at hl h2
    rw [e2]
    omega
  | 2, _ =>
    have e : LB 2 = 109 := rfl
    have e2 : LB (2 + 1) = 3079 := rfl
    rw [e] at hl h2
    rw [e2]
    omega
theorem lb_200 {i : Nat} (h3 : i < 3) : LB i ≤ 200 ∧ BB i ≤ 400 ∧ 2 * BB i + 1 ≤ BB (i + 1) := by
  match i, h3 with
  | 0, _ => decide
  | 1, _ => decide
  | 2, _ => decide
theorem lb_all {i : Nat} : LB i ≤ 3079 ∧ BB i ≤ 743 := by
  unfold LB BB
  split <;> omega
section
variable {P : Program} {w : World} {K : PySem.W.Frag} {mg : Str → Option Value} {base : Heap} {f : Addr} {fd : FuncData}
theorem ok_lo {fS fW : Addr} {dS dW : FuncData} (F : FnP K "_law_low" sLo f fd) (T : Bl mg) (M : Mo mg) (U : BlM mg) (L : BlL mg) (FS : FnP K "_law_shared" sSh fS dS) (gS : mg "_law_shared" = some (.ref fS)) (FW : FnP K "_law_without" sWo fW dW) (gW : mg "_law_without" = some (.ref fW)) : FnOk P w K mg base CX0 2 f fd ["_law_tests", "_law_shape"] (spLo K) := by
  have GS : FnOk P w K mg base CX0 1 fS dS ["_law_one_here", "_law_two"] spSh := ok_shared FS T M U
  have bS : Binds K dS ["_law_one_here", "_law_two"] [] := FS.bindsN fun _ _ _ _ _ _ us hl => match us, hl with | [_, _], _ => rfl
  have GW : FnOk P w K mg base CX0 1 fW dW ["_law_some", "_law_at"] (spWo K) := ok_wo FW M L
  have bW : Binds K dW ["_law_some", "_law_at"] [] := FW.bindsN fun _ _ _ _ _ _ us hl => match us, hl with | [_, _], _ => rfl
  refine F.ok scLo (fun vs H Q E h => ?_) (fun cdv A outer s H vs Q E hr h => ?_)
  · obtain ⟨a, u, xs, ts, g, m, rfl, _⟩ := h
    rfl
  · obtain ⟨a, u, xs, ts, g, m, rfl, hS, hx, hu, lt, lg, m1, m3, l6, bt, bg, k⟩ := h
    have hr1 := hr
    refine ⟨_, PSs.nox <| pss_cons (ps_set (i := 2) scLo.nd rfl (.inr rfl) (pe_op op_sub (pe_callB call_len (by rfl) M.len PySem.boot_len (pa_cons (pv 1) pa_nil)) pe_int))
      <| pss_cons (ps_setLc (i := 3) (own := [("_law_test", 10)]) (g := gName 10) (tt := tYes) rfl scLo.nd rfl rfl (sw_true rfl rfl rfl (by decide +kernel)) (pi_list (pv 0)) (blkOk_by (N := nLo) (sc := defScope sLo) (by decide +kernel)) (fun _ _ _ _ _ => pg_name (i := 10) scLo.nd rfl (Or.inl rfl)) (fun _ _ _ _ _ => pts_nil) (fun _ _ _ _ _ => (pe_callTy (r := Pg.rTupOf K) call_tuple_of (by rfl) M.tuple (by decide +kernel) (pa_cons (pe_op op_catR (pe_callTy (r := rListOf K) call_list_of (by rfl) L.list (by decide +kernel) (pa_cons (pe_slice (r := rSlT K) sl_tup (pv 10) po_none (po_some (pv 2))) pa_nil)) (pe_lstR (pa_cons pe_int (pa_cons (pe_ix (r := rIxT K) ix_tup (pv 10) (pv 2) (fun _ _ => rfl)) pa_nil)))) pa_nil))))
      <| pss_cons (ps_expr (pe_bm PySem.F.plainAttrs_list PySem.F.slot_list_append PySem.F.type_list_append mt_append (pv 3) (pa_cons (pe_callTy (r := Pg.rTupOf K) call_tuple_of (by rfl) M.tuple (by decide +kernel) (pa_cons (pe_op op_catR (pe_lc (own := [("_law_part", 11)]) (g := gName 11) (tt := tYes) rfl scLo.nd (pi_tup (pe_slice (r := rSlT K) sl_tup (pv 1) po_none (po_some (pv 2)))) (blkOk_by (N := nLo) (sc := defScope sLo) (by decide +kernel)) (fun _ _ _ _ _ => pg_name (i := 11) scLo.nd rfl (Or.inl rfl)) (fun _ _ _ _ _ => pts_nil) (fun _ _ _ _ _ => (pe_op op_sub pe_int (pv 11)))) (pe_lstR (pa_cons pe_int (pa_cons (pe_op op_sub pe_int (pe_ix (r := rIxT K) ix_tup (pv 1) (pv 2) (fun _ _ => rfl))) pa_nil)))) pa_nil)) pa_nil)))
      <| pss_cons (ps_for PassesOwn.never rfl (pi_range1 (by rfl) M.range (pa_cons (pv 2) pa_nil)) (pg_name (i := 4) scLo.nd rfl (.inl rfl)) (pss_one (ps_set (i := 3) scLo.nd rfl (.inl rfl) (pe_call GW hr1 (by rfl) gW FW.kp bW .nil pass0 (pa_cons (pv 3) (pa_cons (pv 4) pa_nil))))))
      <| pss_cons (ps_if (pt_cmpR (op_neE hr.units) (pe_lc (own := [("_law_row_here", 5)]) (g := gName 5) rfl scLo.nd (pi_list (pv 3)) (blkOk_by (N := nLo) (sc := defScope sLo) (by decide +kernel)) (fun _ _ _ _ _ => pg_name (i := 5) scLo.nd rfl (Or.inl rfl)) (fun _ _ _ _ _ => pts_one (PW.pt (pw_and (pt_cmpR op_eq (pe_ix (r := rIxT K) ix_tup (pv 5) (pv 2) (fun _ _ => rfl)) pe_int (nomark _)) (pw_and1 (pt_cmpR op_lt (pe_ix (r := rIxT K) ix_tup (pv 5) (pe_op op_add (pv 2) pe_int) (fun _ _ => rfl)) pe_int (nomark _)))))) (fun _ _ _ _ _ => (pv 5))) (pe_lstR pa_nil) (nomark _)) (pss_one (ps_ret pe_non)) pss_nil)
      <| pss_cons (ps_set (i := 6) scLo.nd rfl (.inl rfl) pe_str)
      <| pss_cons (ps_for PassesOwn.never rfl (pi_list (pv 3)) (pg_name (i := 5) scLo.nd rfl (.inl rfl)) (pss_one (ps_if (pt_cmpR op_gt (pe_ix (r := rIxT K) ix_tup (pv 5) (pv 2) (fun _ _ => rfl)) pe_int (nomark _)) (pss_cons (ps_par (by rfl) scLo.nd (i := 7) (j := 8) rfl rfl (by decide) rfl rfl (pa_cons (pe_op op_sub pe_int (pe_ix (r := rIxT K) ix_tup (pv 5) (pe_op op_add (pv 2) pe_int) (fun _ _ => rfl))) (pa_cons (pe_ix (r := rIxT K) ix_tup (pv 5) (pv 2) (fun _ _ => rfl)) pa_nil)) (by rfl)) (pss_one (ps_if (PW.pt (pw_or (pt_cmpR (op_eqP hr.units) (pv 6) pe_str (nomark _)) (pw_or1 (pt_cmpR op_gt (pe_op op_mulW (pv 7) (pe_ix (r := rIxT K) ix_tup (pv 6) pe_int (fun _ _ => rfl))) (pe_op op_mulW (pe_ix (r := rIxT K) ix_tup (pv 6) pe_int (fun _ _ => rfl)) (pv 8)) (nomark _))))) (pss_one (ps_set (i := 6) scLo.nd rfl (.inl rfl) (pe_tupR (pa_cons (pv 7) (pa_cons (pv 8) pa_nil))))) pss_nil))) pss_nil)))
      <| pss_cons (ps_if (pt_cmpR (op_eqP hr.units) (pv 6) pe_str (nomark _)) (pss_one (ps_ret (pv 6))) pss_nil)
      <| pss_cons (ps_set (i := 9) scLo.nd rfl (.inl rfl) (pe_call GS hr1 (by rfl) gS FS.kp bS .nil pass0 (pa_cons (pe_ix (r := rIxT K) ix_tup (pv 6) pe_int (fun _ _ => rfl)) (pa_cons (pe_ix (r := rIxT K) ix_tup (pv 6) pe_int (fun _ _ => rfl)) pa_nil))))
      <| pss_one (ps_ret (pe_tupR (pa_cons (pe_op op_fdivW (pe_ix (r := rIxT K) ix_tup (pv 6) pe_int (fun _ _ => rfl)) (pv 9)) (pa_cons (pe_op op_fdivW (pe_ix (r := rIxT K) ix_tup (pv 6) pe_int (fun _ _ => rfl)) (pv 9)) pa_nil)))), ?_⟩
    have at_ : ∀ {r : List Int} {q : Nat} (j : Nat), r.length = q → j < q → (r.map V.int)[j]? = some (V.int (r.getD j 0)) := fun {r q} j lrr hj => by
      rw [List.getElem?_map, List.getD_eq_getElem?_getD, List.getElem?_eq_getElem (by omega)]
      rfl
    refine ⟨_, rfl, _, (g.map V.int).length, rfl, .inr ⟨_, hu, rfl⟩, _, _, rfl, rfl, ?_⟩
    have esz : (((g.map V.int).length : Nat) : Int) - 1 = (m : Int) := by rw [List.length_map]; omega
    show gName 2 (.int ((((g.map V.int).length : Nat) : Int) - 1)) _ H _
    rw [esz]
    refine ⟨_, rfl, a, rfl, ⟨_, hS⟩, fun D hD => ?_⟩
    refine lc_list (K := K) (a := a) (xs := xs) (fun i H' => ∃ ys, H' D = some (.lst ys) ∧ VT H' ys ((ts.map (rowT m)).take i) ∧ Same H H') ⟨[], upd_same, VT.nil, same_new hD⟩ (fun i H' _ ⟨_, _, _, s⟩ => s.seq hS) ?_ ?_
    · rintro i x H1 ex ⟨ys, h1, v1, s1⟩
      obtain ⟨b, rfl, hb, hm⟩ := hx.at ex
      have lti := lt _ hm
      have hi : i < ts.length := by rw [← hx.1]; exact (List.getElem?_eq_some_iff.mp ex).1
      have et : ts[i]? = some (ts.getD i []) := by rw [List.getD_eq_getElem?_getD, List.getElem?_eq_getElem hi]; rfl
      generalize ts.getD i [] = t at hb hm lti et
      have hb1 := Same.seqT s1 hb
      have ltv : (t.map V.int).length = m + 1 := by rw [List.length_map]; exact lti
      refine ⟨rfl, _, rfl, _, rfl, m, rfl, b, _, rfl, hb1, not_all ltv, fun B hB => ⟨B, _, rfl, .inr (SqT.of upd_same), fun B2 hB2 => ?_⟩⟩
      have s2 := (same_new (o := .tup (cutV (t.map V.int) none (some (m : Int)))) hB).trans (same_new (o := .lst (cutV (t.map V.int) none (some (m : Int)))) hB2)
      have hB2' : upd (upd H1 B (.tup (cutV (t.map V.int) none (some (m : Int))))) B2 (.lst (cutV (t.map V.int) none (some (m : Int)))) B2 = some (.lst (cutV (t.map V.int) none (some (m : Int)))) := upd_same
      generalize upd (upd H1 B (.tup (cutV (t.map V.int) none (some (m : Int))))) B2 (.lst (cutV (t.map V.int) none (some (m : Int)))) = H2 at s2 hB2' ⊢
      rw [cut_m ltv] at hB2'
      refine ⟨_, rfl, _, rfl, b, _, _, _, rfl, rfl, Same.seqT s2 hb1, atI_nat (at_ m lti (by omega)), by show 2 ≤ 1000; decide, fun B3 H3 n3 => ?_⟩
      refine ⟨B2, B3, _, _, rfl, rfl, n3.2.2 _ _ hB2', n3.2.1, by rw [List.length_take, ltv]; show min m (m + 1) + 2 ≤ 1000; omega, fun B4 H4 n4 => ⟨B4, _, rfl, .inl ⟨SqL.of n4.2.1, fun B5 n5 => ?_⟩⟩⟩
      have s15 := ((s2.trans n3.2.2).trans n4.2.2).trans (same_new (o := .tup ((t.map V.int).take m ++ [V.int 0, V.int (t.getD m 0)])) n5)
      have h5 := s15 _ _ h1
      have row5 : upd H4 B5 (.tup ((t.map V.int).take m ++ [V.int 0, V.int (t.getD m 0)])) B5 = some (.tup ((rowT m t).map V.int)) := by
        rw [upd_same]
        unfold rowT
        rw [List.map_append, List.map_take]
        rfl
      refine ⟨ys, h5, small1000 (by rw [v1.1, List.length_take, List.length_map]; omega), ys ++ [.ref B5], upd_same, VT.updL h5 ?_, upd_new (s1.trans s15) hD⟩
      rw [List.take_add_one, List.getElem?_map, et]
      exact (v1.same s15).push row5
    · rintro H1 ⟨ys, h1, v1, s1⟩
      rw [hx.1, ← List.length_map (rowT m), List.take_length] at v1
      have hu1 := Same.seqT s1 hu
      have lgv : (g.map V.int).length = m + 1 := by rw [List.length_map]; exact lg
      refine ⟨_, rfl, .inl ⟨rfl, _, SqL.of h1⟩, _, rfl, _, rfl, m, rfl, u, _, rfl, hu1, not_all lgv, fun C1 hC1 => ?_⟩
      rw [cut_m lgv]
      have s2 := same_new (o := .tup ((g.map V.int).take m)) hC1
      have hC1' : SqT K (upd H1 C1 (.tup ((g.map V.int).take m))) C1 ((g.map V.int).take m) := SqT.of upd_same
      generalize upd H1 C1 (.tup ((g.map V.int).take m)) = H2 at s2 hC1' ⊢
      refine ⟨C1, rfl, ⟨_, hC1'⟩, fun C2 hC2 => ?_⟩
      refine lc_tup (K := K) (a := C1) (xs := (g.map V.int).take m) (fun j H' => H' C2 = some (.lst (((g.take m).take j).map fun z => V.int (0 - z))) ∧ Same H2 H') ⟨upd_same, same_new hC2⟩ (fun j H' _ h => Same.seqT h.2 hC1') ?_ ?_
      · rintro j x H3 ex ⟨h3, s3⟩
        rw [← List.map_take, List.getElem?_map] at ex
        obtain ⟨z, ez, rfl⟩ := Option.map_eq_some_iff.mp ex
        refine ⟨rfl, _, rfl, _, _, rfl, rfl, _, h3, small1000 (by rw [List.length_map, List.length_take, List.length_take]; omega), ?_, upd_new s3 hC2⟩
        rw [upd_same, List.take_add_one, ez, List.map_append]
        rfl
      · rintro H3 ⟨h3, s3⟩
        rw [List.length_take, lgv, show min m (m + 1) = m by omega, List.take_take, Nat.min_self] at h3
        have hu3 := Same.seqT (s2.trans s3) hu1
        refine ⟨_, rfl, _, rfl, u, _, _, _, rfl, rfl, hu3, atI_nat (at_ m lg (by omega)), _, _, rfl, rfl, by show 2 ≤ 1000; decide, fun C3 H4 n4 => ?_⟩
        refine ⟨C2, C3, _, _, rfl, rfl, n4.2.2 _ _ h3, n4.2.1, by rw [List.length_map, List.length_take, lg]; show min m (m + 1) + 2 ≤ 1000; omega, fun C4 H5 n5 => ⟨C4, _, rfl, .inl ⟨SqL.of n5.2.1, fun C5 n6 => ?_⟩⟩⟩
        have s16 := (((s2.trans s3).trans n4.2.2).trans n5.2.2).trans (same_new (o := .tup (((g.take m).map fun z => V.int (0 - z)) ++ [V.int 1, V.int (0 - g.getD m 0)])) n6)
        have row6 : upd H5 C5 (.tup (((g.take m).map fun z => V.int (0 - z)) ++ [V.int 1, V.int (0 - g.getD m 0)])) C5 = some (.tup ((rowS m g).map V.int)) := by
          rw [upd_same]
          unfold rowS
          rw [List.map_append, List.map_map]
          rfl
        have h6 := s16 _ _ h1
        have v6 := (v1.same s16).push row6
        refine ⟨D, _, _, rfl, rfl, h6, small1000 (by rw [v1.1, List.length_map]; omega), ?_⟩
        have v7 := VT.updL (o := .lst (ys ++ [.ref C5])) h6 v6
        have s7 := upd_new (o := .lst (ys ++ [.ref C5])) (s1.trans s16) hD
        have h7 : upd (upd H5 C5 (.tup (((g.take m).map fun z => V.int (0 - z)) ++ [V.int 1, V.int (0 - g.getD m 0)]))) D (.lst (ys ++ [.ref C5])) D = some (.lst (ys ++ [.ref C5])) := upd_same
        show Ends.nx _ _ (upd (upd H5 C5 (.tup (((g.take m).map fun z => V.int (0 - z)) ++ [V.int 1, V.int (0 - g.getD m 0)]))) D (.lst (ys ++ [.ref C5])))
        generalize upd (upd H5 C5 (.tup (((g.take m).map fun z => V.int (0 - z)) ++ [V.int 1, V.int (0 - g.getD m 0)]))) D (.lst (ys ++ [.ref C5])) = H7 at v7 s7 h7 ⊢
        have bd0 : Bds 92 (rows0 m ts g) := fun r hr => by
          unfold rows0 at hr
          rcases List.mem_append.mp hr with h | h
          · obtain ⟨t, ht, rfl⟩ := List.mem_map.mp h
            intro z hz
            unfold rowT at hz
            rcases List.mem_append.mp hz with hz | hz
            · exact bt t ht z (List.mem_of_mem_take hz)
            · simp only [List.mem_cons, List.not_mem_nil, or_false] at hz
              rcases hz with rfl | rfl
              · decide
              · exact bt t ht _ (Pg.getD_mem (by have := lt t ht; omega))
          · rw [List.mem_singleton.mp h]
            intro z hz
            unfold rowS at hz
            rcases List.mem_append.mp hz with hz | hz
            · obtain ⟨y, hy, rfl⟩ := List.mem_map.mp hz
              have := bg y (List.mem_of_mem_take hy)
              omega
            · simp only [List.mem_cons, List.not_mem_nil, or_false] at hz
              rcases hz with rfl | rfl
              · decide
              · have := bg _ (Pg.getD_mem (l := g) (i := m) (by omega))
                omega
        have l0 : (rows0 m ts g).length ≤ LB 0 := by
          unfold rows0
          rw [List.length_append, List.length_map]
          show ts.length + 1 ≤ 7
          omega
        refine ⟨_, rfl, _, rfl, by omega, by omega, for_range (lo := 0) (n := ((m : Nat) : Int).toNat) (fun i σ H' => ∃ (Li : Addr) (x4 : Option V) (zs : List V) (rs : List (List Int)), σ = [some (.ref a), some (.ref u), some (.int (m : Nat)), some (.ref Li), x4, none, none, none, none, none, none, none] ∧ SqL K H' Li zs ∧ VT H' zs rs ∧ FmI m (rows0 m ts g) rs i ∧ rs.length ≤ LB i ∧ Bds (BB i) rs ∧ Same H H') ⟨D, none, _, _, rfl, SqL.of h7, v7, Dd.fm_zero lt lg, l0, bd0, s7⟩ ?_ ?_⟩
        · rintro i σ H8 hi ⟨Li, x4, zs, rs, rfl, hL, hv, I, hl, hB, s8⟩
          rw [Int.toNat_natCast] at hi
          obtain ⟨q1, q2, q3⟩ := lb_200 (show i < 3 by omega)
          have wl := Dd.wo_length rs i
          refine ⟨_, rfl, _, rfl, Li, i, m + 2, zs, rs, (by rw [Int.zero_add]; rfl), hL, hv, I.len, by omega, by omega, by omega, fun r hr => Bd.mono q2 (hB r hr), fun l bs qs H9 hl9 v9 mq lq s9 => ?_⟩
          exact ⟨l, _, _, qs, rfl, SqL.of hl9, v9, Dd.fm_next I hi mq, Nat.le_trans lq (lb_next (by omega) hl wl), fun r hr => Bd.mono q3 (Dd.wo_bd hB i r ((mq r).mp hr)), s8.trans s9⟩
        · rintro σ H8 ⟨Li, x4, zs, rs, rfl, hL, hv, I, hl, hB, s8⟩
          rw [Int.toNat_natCast] at I hl hB
          have lr := I.len
          have l9 : rs.length ≤ 3079 := Nat.le_trans hl lb_all.1
          have hB2 : Bds 743 rs := fun r hr => Bd.mono lb_all.2 (hB r hr)
          have em1 : ((m : Nat) : Int) + 1 = ((m + 1 : Nat) : Int) := by omega
          have bit : ∀ r ∈ rs, ∀ j, (r.getD j 0).natAbs < 2 ^ 743 := fun r hr j => by
            rw [List.getD_eq_getElem?_getD]
            cases ej : r[j]? with
            | none => exact Nat.pow_pos (by decide)
            | some z => exact hB2 r hr z (List.mem_of_getElem? ej)
          clear hB hl
          refine ⟨_, rfl, Li, rfl, ⟨_, hL⟩, lcF (walk_list (xs := zs)) (n1 := by rw [hv.1]; omega) (fun H' s' => s'.seq hL) (fun i => decide ((rs.getD i []).getD m 0 = 0) && decide ((rs.getD i []).getD (m + 1) 0 < 0)) (fun i y H => True) (fun _ _ _ _ _ _ => trivial) ?_ ?_⟩
          · rintro D2 acc i x Ha Hb K2 S hi s nD hD ⟨rfl, ex⟩ kk ks
            obtain ⟨b, r, rfl, er, hb⟩ := hv.at ex
            have eg : rs.getD i [] = r := by rw [List.getD_eq_getElem?_getD, er]; rfl
            have lrr := lr r (List.mem_of_getElem? er)
            have hbT := SqT.of (K := K) (s _ _ hb)
            rw [eg] at kk ks
            refine ⟨rfl, _, rfl, _, rfl, b, _, _, _, rfl, rfl, hbT, atI_nat (at_ m lrr (by omega)), rfl, _, rfl, ?_⟩
            by_cases c1 : r.getD m 0 = 0
            · refine iteDY (c := V.int (r.getD m 0) = V.int 0) (by rw [c1]) ?_
              refine ⟨_, rfl, _, rfl, _, _, rfl, rfl, b, _, _, _, rfl, rfl, hbT, (by rw [em1]; exact atI_nat (at_ (m + 1) lrr (by omega))), _, _, rfl, rfl, _, rfl, ?_⟩
              by_cases c2 : r.getD (m + 1) 0 < 0
              · exact iteDY c2 ⟨_, rfl, kk _ _ (by rw [decide_eq_true c1, decide_eq_true c2]; rfl) (Same.refl _) trivial⟩
              · exact iteDN c2 (ks _ (by rw [decide_eq_false c2, Bool.and_false]) (Same.refl _))
            · refine iteDN (c := V.int (r.getD m 0) = V.int 0) (fun e => c1 (V.int.inj e)) ?_
              exact ks _ (by rw [decide_eq_false c1, Bool.false_and]) (Same.refl _)
          · rintro D2 H9 ys nw hlen he
            refine ⟨by show 0 ≤ 1000; decide, fun E2 H10 n10 => ⟨D2, E2, ys, rfl, rfl, SqL.of (n10.2.2 _ _ nw.2.1), SqL.of n10.2.1, _, rfl, ?_⟩⟩
            have s10 := s8.trans (nw.2.2.trans n10.2.2)
            cases hye : ys.isEmpty with
            | false =>
              have : ∃ i, i < zs.length ∧ (decide ((rs.getD i []).getD m 0 = 0) && decide ((rs.getD i []).getD (m + 1) 0 < 0)) = true := Classical.byContradiction fun q => by
                have z : (kept (fun i => decide ((rs.getD i []).getD m 0 = 0) && decide ((rs.getD i []).getD (m + 1) 0 < 0)) zs.length).length = 0 := kept_empty.mpr fun i hi => by
                  cases e : (decide ((rs.getD i []).getD m 0 = 0) && decide ((rs.getD i []).getD (m + 1) 0 < 0)) with
                  | false => rfl
                  | true => exact absurd ⟨i, hi, e⟩ q
                rw [z] at hlen
                rw [List.length_eq_zero_iff.mp hlen] at hye
                cases hye
              obtain ⟨i, hi, e⟩ := this
              obtain ⟨e1, e2⟩ := Bool.and_eq_true_iff.mp e
              have hi2 : i < rs.length := by rw [← hv.1]; exact hi
              have e0 := ansD_no (g := g) (Dd.fm_none lt lg I (r := rs.getD i []) (by rw [List.getD_eq_getElem?_getD, List.getElem?_eq_getElem hi2]; exact List.getElem_mem hi2) (of_decide_eq_true e1) (of_decide_eq_true e2))
              exact iteT (k _ _ s10 (by rw [e0]; exact .non) (by rw [e0]; exact Sz.sh_none))
            | true =>
              refine iteF ?_
              have hz : ∀ r ∈ rs, r.getD m 0 = 0 → 0 ≤ r.getD (m + 1) 0 := fun r hr r0 => by
                obtain ⟨i, hi, rfl⟩ := List.mem_iff_getElem.mp hr
                have z0 : (kept (fun i => decide ((rs.getD i []).getD m 0 = 0) && decide ((rs.getD i []).getD (m + 1) 0 < 0)) zs.length).length = 0 := by
                  rw [← hlen]
                  exact List.length_eq_zero_iff.mpr (List.isEmpty_iff.mp hye)
                have := kept_empty.mp z0 i (by rw [hv.1]; exact hi)
                have eg : rs.getD i [] = rs[i] := by rw [List.getD_eq_getElem?_getD, List.getElem?_eq_getElem hi]; rfl
                rw [eg, decide_eq_true r0, Bool.true_and] at this
                have := of_decide_eq_false this
                omega
              have hL10 := (nw.2.2.trans n10.2.2).seq hL
              have hv10 := hv.same (nw.2.2.trans n10.2.2)
              refine ⟨_, rfl, Li, rfl, ⟨_, hL10⟩, for_list (K := K) (a := Li) (xs := zs) (fun i σ H' => ∃ (x4 x5 x7 x8 : Option V) (vb : V), σ = [some (.ref a), some (.ref u), some (.int (m : Nat)), some (.ref Li), x4, x5, some vb, x7, x8, none, none, none] ∧ Same H10 H' ∧ BestV K m (rs.take i) H' vb) ⟨_, none, none, none, _, rfl, Same.refl _, .inl ⟨rfl, fun r hr => by rw [List.take_zero] at hr; cases hr⟩⟩ (fun i σ H' _ ⟨_, _, _, _, _, _, s', _⟩ => s'.seq hL10) ?_ ?_⟩
              · rintro i x σ H11 ex ⟨y4, x5, x7, x8, vb, rfl, s11, bv⟩
                obtain ⟨b, r, rfl, er, hb⟩ := hv10.at ex
                have hr := List.mem_of_getElem? er
                have lrr := lr r hr
                have hbT := SqT.of (K := K) (s11 _ _ hb)
                have tk : rs.take (i + 1) = rs.take i ++ [r] := by rw [List.take_add_one, er]; rfl
                have mem : ∀ {q : List Int}, q ∈ rs.take (i + 1) → q ∈ rs.take i ∨ q = r := fun {q} hq => by
                  rw [tk] at hq
                  rcases List.mem_append.mp hq with h | h
                  · exact .inl h
                  · exact .inr (List.mem_singleton.mp h)
                have old : ∀ {q : List Int}, q ∈ rs.take i → q ∈ rs.take (i + 1) := fun {q} hq => by rw [tk]; exact List.mem_append_left _ hq
                have new : r ∈ rs.take (i + 1) := by rw [tk]; exact List.mem_append_right _ (List.mem_singleton.mpr rfl)
                have r0 := bit r hr m
                have r1 := bit r hr (m + 1)
                have r1' : (0 - r.getD (m + 1) 0).natAbs < 2 ^ 743 := by omega
                refine ⟨_, rfl, _, rfl, b, _, _, _, rfl, rfl, hbT, atI_nat (at_ m lrr (by omega)), _, _, rfl, rfl, _, rfl, ?_⟩
                refine ite2 (fun hc => ?_) (fun hc => ?_)
                · have c : 0 < r.getD m 0 := of_decide_eq_true hc
                  refine ⟨_, rfl, _, rfl, _, _, rfl, rfl, b, _, _, _, rfl, rfl, hbT, (by rw [em1]; exact atI_nat (at_ (m + 1) lrr (by omega))), _, _, rfl, rfl, _, rfl, _, rfl, b, _, _, _, rfl, rfl, hbT, atI_nat (at_ m lrr (by omega)), _, _, rfl, ?_⟩
                  rcases bv with ⟨rfl, hn⟩ | ⟨c0, t, rfl, ht, t0, hT, mt⟩
                  · refine ⟨_, rfl, .str _, .str _, .str _, .str _, pl_txt _, pl_txt _, dp_txt _, _, rfl, ?_⟩
                    rw [eqv_txt]
                    refine iteT ⟨_, rfl, _, rfl, by show 2 ≤ 1000; decide, fun N H12 n12 => ?_⟩
                    refine ⟨_, _, _, _, _, rfl, s11.trans n12.2.2, .inr ⟨N, r, rfl, new, c, SqT.of n12.2.1, fun q hq q0 => ?_⟩⟩
                    rcases mem hq with h | rfl
                    · exact absurd q0 (hn q h)
                    · exact Int.le_refl _
                  · have ht2 := List.mem_of_mem_take ht
                    have b0 := bit t ht2 m
                    have b1 := bit t ht2 (m + 1)
                    have b1' : (0 - t.getD (m + 1) 0).natAbs < 2 ^ 743 := by omega
                    refine ⟨_, rfl, fD [0 - t.getD (m + 1) 0, t.getD m 0], .str _, Pg.dp_ints hT, .str _, pl_pair _ _, pl_txt _, dep_pair _ _, _, rfl, ?_⟩
                    rw [show PyData.eqv (fD [0 - t.getD (m + 1) 0, t.getD m 0]) (.str "endless") = false from eqv_tt _ _]
                    refine iteF ?_
                    refine ⟨_, rfl, _, rfl, c0, _, 1, _, rfl, rfl, hT, atI_nat (j := 1) rfl, _, _, rfl, rfl, wide_mul (a := 743) (b := 743) r1' b0 (by decide) (by decide) (by decide), _, rfl, c0, _, 0, _, rfl, rfl, hT, atI_nat (j := 0) rfl, _, rfl, _, _, rfl, rfl, wide_mul (a := 743) (b := 743) b1' r0 (by decide) (by decide) (by decide), _, _, rfl, rfl, _, rfl, ?_⟩
                    refine ite2 (fun hg => ?_) (fun hg => ?_)
                    · have hg2 : (0 - t.getD (m + 1) 0) * r.getD m 0 < (0 - r.getD (m + 1) 0) * t.getD m 0 := of_decide_eq_true hg
                      refine ⟨_, rfl, _, rfl, by show 2 ≤ 1000; decide, fun N H12 n12 => ?_⟩
                      refine ⟨_, _, _, _, _, rfl, s11.trans n12.2.2, .inr ⟨N, r, rfl, new, c, SqT.of n12.2.1, fun q hq q0 => ?_⟩⟩
                      rcases mem hq with h | rfl
                      · exact Dd.ratio q0 t0 c (mt q h q0) (Int.le_of_lt hg2)
                      · exact Int.le_refl _
                    · have hg2 : ¬ (0 - t.getD (m + 1) 0) * r.getD m 0 < (0 - r.getD (m + 1) 0) * t.getD m 0 := fun h => hg (decide_eq_true h)
                      refine ⟨_, _, _, _, _, rfl, s11, .inr ⟨c0, t, rfl, old ht, t0, hT, fun q hq q0 => ?_⟩⟩
                      rcases mem hq with h | rfl
                      · exact mt q h q0
                      · exact Int.not_lt.mp hg2
                · have c : ¬ 0 < r.getD m 0 := fun h => hc (decide_eq_true h)
                  refine ⟨_, _, _, _, _, rfl, s11, ?_⟩
                  rcases bv with ⟨rfl, hn⟩ | ⟨c0, t, rfl, ht, t0, hT, mt⟩
                  · refine .inl ⟨rfl, fun q hq => ?_⟩
                    rcases mem hq with h | rfl
                    · exact hn q h
                    · exact c
                  · refine .inr ⟨c0, t, rfl, old ht, t0, hT, fun q hq q0 => ?_⟩
                    rcases mem hq with h | rfl
                    · exact mt q h q0
                    · exact absurd q0 c
              · rintro σ H11 ⟨y4, x5, x7, x8, vb, rfl, s11, bv⟩
                rw [hv.1, List.take_length] at bv
                have sF := s10.trans s11
                rcases bv with ⟨rfl, hn⟩ | ⟨c0, t, rfl, ht, t0, hT, mt⟩
                · refine ⟨_, rfl, .str _, .str _, .str _, .str _, pl_txt _, pl_txt _, dp_txt _, _, rfl, ?_⟩
                  rw [eqv_txt]
                  refine iteT ⟨_, rfl, k _ _ sF ?_ ?_⟩
                  · rw [ansD_end (Dd.fm_end lt lg I hz hn)]
                    exact .str _
                  · rw [ansD_end (Dd.fm_end lt lg I hz hn)]
                    exact Sz.sh_endless
                · have b0 := bit t ht m
                  have b1 := bit t ht (m + 1)
                  have b1' : (0 - t.getD (m + 1) 0).natAbs < 2 ^ 743 := by omega
                  refine ⟨_, rfl, fD [0 - t.getD (m + 1) 0, t.getD m 0], .str _, Pg.dp_ints hT, .str _, pl_pair _ _, pl_txt _, dep_pair _ _, _, rfl, ?_⟩
                  rw [show PyData.eqv (fD [0 - t.getD (m + 1) 0, t.getD m 0]) (.str "endless") = false from eqv_tt _ _]
                  refine iteF ?_
                  refine ⟨_, rfl, c0, _, 0, _, rfl, rfl, hT, atI_nat (j := 0) rfl, _, rfl, c0, _, 1, _, rfl, rfl, hT, atI_nat (j := 1) rfl, _, _, rfl, big743 b1', big743 b0, ?_⟩
                  obtain ⟨gp, gl⟩ := gcd_fit743 (x := 0 - t.getD (m + 1) 0) t0 b0
                  refine ⟨_, rfl, c0, _, 0, _, rfl, rfl, hT, atI_nat (j := 0) rfl, _, rfl, _, _, rfl, rfl, wide_div (b := 743) gp gl (by decide) (by decide), _, rfl, c0, _, 1, _, rfl, rfl, hT, atI_nat (j := 1) rfl, _, rfl, _, _, rfl, rfl, wide_div (b := 743) gp gl (by decide) (by decide), by show 2 ≤ 1000; decide, fun N H12 n12 => k _ _ (sF.trans n12.2.2) ?_ ?_⟩
                  · rw [ansD_val (Dd.fm_val lt lg I hz ht t0 mt)]
                    exact Pg.dp_ints (SqT.of n12.2.1)
                  · rw [ansD_val (Dd.fm_val lt lg I hz ht t0 mt)]
                    exact Sz.sh_pair (Nat.lt_of_le_of_lt (Int.natAbs_ediv_le_natAbs ..) b1') (Nat.lt_of_le_of_lt (Int.natAbs_ediv_le_natAbs ..) b0)
end
end K5
set_option Elab.async false
set_option linter.all false
set_option maxRecDepth 100000
set_option maxHeartbeats 4000000
set_option exponentiation.threshold 20000
namespace K5
open PySem PySem.Spec PyProof.Rows L2 Gd Rl
open Pg (Mo VA fD)
abbrev sNum : Stmt := top 31
/-- a number, mostly small -/
def spNum : Sp := fun vs H Q _ => ∃ p : Addr, vs = [.ref p] ∧ Well H p ∧ ∀ (z : Int) (H' : Hp), z.natAbs < 10 ^ 27 → Well H' p → But p H H' → Q (.int z) H'
theorem scNum : FnScope ["_law_well_here"] ["_law_well_here"] (defScope sNum) := ⟨rfl, rfl, rfl, by decide +kernel, rfl, by decide +kernel, by decide +kernel⟩
theorem well_ne {p a : Addr} {H : Hp} (h : Well H p) (n : H a = none) : a ≠ p := fun e => by
  obtain ⟨st, c, o1, h1, h2⟩ := h
  rw [e, h1] at n
  cases n
section
variable {P : Program} {w : World} {K : PySem.W.Frag} {mg : Str → Option Value} {base : Heap} {f : Addr} {fd : FuncData}
theorem ok_num {fC fP fG : Addr} {dC dP dG : FuncData} (F : FnP K "_law_number" sNum f fd) (T : Bl mg) (M : Mo mg) (FC : FnP K "_law_draw" sDraw fC dC) (gC : mg "_law_draw" = some (.ref fC)) (FP : FnP K "_law_pick" sPick fP dP) (gP : mg "_law_pick" = some (.ref fP)) (FG : FnP K "_law_great" sGr fG dG) (gG : mg "_law_great" = some (.ref fG)) : FnOk P w K mg base CX0 3 f fd ["_law_well_here"] spNum := by
  have GC : FnOk P w K mg base CX0 1 fC dC ["_law_well_here", "_law_many"] spDraw := ok_draw FC T
  have bC : Binds K dC ["_law_well_here", "_law_many"] [] := FC.bindsN fun _ _ _ _ _ _ us hl => match us, hl with | [_, _], _ => rfl
  have GP : FnOk P w K mg base CX0 2 fP dP ["_law_well_here", "_law_choices"] (spPick K) := ok_pick FP T FC gC
  have bP : Binds K dP ["_law_well_here", "_law_choices"] [] := FP.bindsN fun _ _ _ _ _ _ us hl => match us, hl with | [_, _], _ => rfl
  have GG : FnOk P w K mg base CX0 2 fG dG ["_law_well_here"] spGr := ok_great FG T M FC gC
  have bG : Binds K dG ["_law_well_here"] [] := FG.bindsN fun _ _ _ _ _ _ us hl => match us, hl with | [_], _ => rfl
  refine F.ok scNum (fun vs H Q E h => ?_) (fun cdv A outer s H vs Q E hr h => ?_)
  · obtain ⟨p, rfl, _⟩ := h
    rfl
  · obtain ⟨p, rfl, hp, k⟩ := h
    have hr1 := hr.mono (show 1 ≤ 2 by decide)
    refine ⟨_, PSs.nox <| pss_one (ps_ret (pe_call GP hr (by rfl) gP FP.kp bP .nil pass0 (pa_cons (pv 0) (pa_cons (pe_lstR <| pa_cons pe_int <| pa_cons pe_int <| pa_cons (pe_un un_neg pe_int) <| pa_cons pe_int <| pa_cons (pe_un un_neg pe_int) <| pa_cons (pe_op op_sub (pe_call GC hr1 (by rfl) gC FC.kp bC .nil pass0 (pa_cons (pv 0) (pa_cons pe_int pa_nil))) pe_int) <| pa_cons pe_int <| pa_cons pe_int <| pa_cons (pe_op op_sub (pe_call GG hr (by rfl) gG FG.kp bG .nil pass0 (pa_cons (pv 0) pa_nil)) (pe_op op_mulW pe_int (pe_op op_pow pe_int pe_int))) pa_nil) pa_nil)))), ?_⟩
    refine ⟨_, rfl, _, rfl, _, rfl, _, rfl, p, _, rfl, hp, by decide, by decide, fun d H1 d0 d9 hp1 b1 => ⟨_, _, rfl, rfl, _, rfl, p, rfl, hp1, fun g H2 g0 g1 hp2 b2 => ?_⟩⟩
    refine ⟨_, _, rfl, rfl, ⟨by decide, by decide, by decide⟩, _, _, rfl, rfl, wide_mul (a := 4) (b := 60) (by decide) (by decide) (by decide) (by decide) (by decide), _, _, rfl, rfl, by show 9 ≤ 1000; decide, fun l H3 n3 => ?_⟩
    have lp := well_ne hp2 n3.1
    refine ⟨p, l, _, rfl, hp2.same n3.2.2, n3.2.1, lp, by show 0 < 9; decide, by show 9 ≤ 1000; decide, fun i x H4 ex hp4 b4 => ?_⟩
    have bb : But p H H4 := ((b1.trans b2).trans (But.same n3.2.2)).trans b4
    have e12 : (10 : Int) ^ Int.toNat 12 = 1000000000000 := rfl
    have fin : ∃ z : Int, x = .int z ∧ z.natAbs < 10 ^ 27 := by
      have m := List.mem_of_getElem? ex
      simp only [List.mem_cons, List.not_mem_nil, or_false] at m
      rcases m with rfl | rfl | rfl | rfl | rfl | rfl | rfl | rfl | rfl
      · exact ⟨_, rfl, by decide⟩
      · exact ⟨_, rfl, by decide⟩
      · exact ⟨_, rfl, by decide⟩
      · exact ⟨_, rfl, by decide⟩
      · exact ⟨_, rfl, by decide⟩
      · exact ⟨_, rfl, by omega⟩
      · exact ⟨_, rfl, by decide⟩
      · exact ⟨_, rfl, by decide⟩
      · exact ⟨_, rfl, by omega⟩
    obtain ⟨z, rfl, hz⟩ := fin
    exact k z H4 hz hp4 bb
end
end K5
set_option Elab.async false
set_option linter.all false
set_option maxRecDepth 100000
set_option maxHeartbeats 4000000
set_option exponentiation.threshold 20000
namespace K5
open PySem PySem.Spec PyProof.Rows L2 Gd Rl Vd
open Pg (Mo VA fD spLst LstOk LstAns Nl nl_same nl_upd nl_del seqT_nl vp_form)
open Dd (Bd Bds Ln reachF endF lowF bestF valsF arrF bdM In)
theorem in_mem {n : Nat} {ts us : List (List Int)} (h : ∀ t, t ∈ us ↔ t ∈ ts) (x : List Int) : In n ts x ↔ In n us x := ⟨fun i => ⟨i.l, i.p, fun t ht => i.t t ((h t).mp ht)⟩, fun i => ⟨i.l, i.p, fun t ht => i.t t ((h t).mpr ht)⟩⟩
theorem ansD_ext {n : Nat} {ts us : List (List Int)} {g : List Int} (n1 : 1 ≤ n) (lt : Ln n ts) (lg : g.length = n) (h : ∀ t, t ∈ us ↔ t ∈ ts) : ansD n us g = ansD n ts g := by
  have lu : Ln n us := fun t ht => lt t ((h t).mp ht)
  have e := in_mem (n := n) h
  cases q : reachF (arrF n ts) with
  | false => rw [ansD_no q, ansD_no (Dd.ext_no n1 lt lu e q)]
  | true =>
    by_cases q2 : endF (arrF n ts) g = []
    · obtain ⟨r1, r2⟩ := Dd.ext_val n1 lt lu lg e q q2
      have r0 := Dd.ext_reach n1 lt lu e q
      unfold ansD
      rw [if_pos r0, if_pos q, if_pos r1, if_pos q2, r2]
    · rw [ansD_end ⟨q, q2⟩, ansD_end ⟨Dd.ext_reach n1 lt lu e q, Dd.ext_end n1 lt lu lg e q2⟩]
theorem ask_dp {K : PySem.W.Frag} {H : Hp} {Q : VK} {n : Nat} {ts : List (List Int)} {g : List Int} (k : ∀ v H', Same H H' → Dp K H' v (ansD n ts g) → Q v H') : LstAns K H n ts g Q := by
  refine ⟨fun q H' s => k _ H' s (by rw [ansD_no q]; exact .non), fun q1 q2 H' s => k _ H' s (by rw [ansD_end ⟨q1, q2⟩]; exact .str _), fun q1 q2 b H' s hb => k _ H' s ?_⟩
  unfold ansD
  rw [if_pos q1, if_pos q2]
  exact Pg.dp_ints hb
theorem dp_ans_nl {K : PySem.W.Frag} {H H' : Hp} {v : V} {n : Nat} {ts : List (List Int)} {g : List Int} (s : Nl H H') (h : Dp K H v (ansD n ts g)) : Dp K H' v (ansD n ts g) := by
  unfold ansD at h ⊢
  by_cases q1 : reachF (arrF n ts) = true
  · rw [if_pos q1] at h ⊢
    by_cases q2 : endF (arrF n ts) g = []
    · rw [if_pos q2] at h ⊢
      obtain ⟨b, rfl, hb⟩ := vp_form (vp_dp _ h)
      exact Pg.dp_ints (seqT_nl s hb)
    · rw [if_neg q2] at h ⊢
      cases h
      exact .str _
  · rw [if_neg q1] at h ⊢
    cases h
    exact .non
/-- tests as they are drawn -/
structure TK (m : Nat) (ts : List (List Int)) : Prop where
  lt : Ln (m + 1) ts
  b : Bds 90 ts
  l : ts.length ≤ 6
  o : ts.length ≤ 5 ∨ ∃ us vs, ts = us ++ vs ∧ us.length = m ∧ vs.length ≤ 3 ∧ Bds 2 us
theorem lk_six {n : Nat} {ts : List (List Int)} {g : List Int} (n2 : 2 ≤ n) (n4 : n ≤ 4) (lt : Ln n ts) (lg : g.length = n) (bt : Bds 90 ts) (bg : Bd 400 g) (l : ts.length ≤ 6) : LstOk n ts g :=
  Dd.lst_okB (m := fun _ => 92) n2 n4 lt lg (fun i c e => Bd.mono (by decide) (bt c (List.mem_of_getElem? e))) (fun c hc => Bd.mono (by decide) (bt c hc)) bg (by omega) (Nat.le_trans (Dd.bdM_mono _ l) Dd.six_ok.1) (Nat.le_trans (Dd.bdM_mono _ (show ts.length + 1 ≤ 7 by omega)) Dd.six_ok.2)
theorem mix_ok : ∀ m, m < 4 → 1 ≤ m → ∀ v, v < 4 → bdM (fun i => if i < m then 2 else if i < m + v then 90 else 2) (m + v + 1) ≤ 4000 ∧ bdM (fun i => if i < m then 2 else if i < m + v then 90 else 2) (m + v + 2) ≤ 8600 := by decide
theorem lk_more {m : Nat} {ts : List (List Int)} {g : List Int} (m1 : 1 ≤ m) (m3 : m ≤ 3) (h : TK m ts) (lg : g.length = m + 1) (bg : Bd 400 g) : LstOk (m + 1) (ts ++ ts.take 1) g := by
  have lt2 : Ln (m + 1) (ts ++ ts.take 1) := fun t ht => by
    rcases List.mem_append.mp ht with q | q
    · exact h.lt t q
    · exact h.lt t (List.mem_of_mem_take q)
  have bt2 : Bds 90 (ts ++ ts.take 1) := fun t ht => by
    rcases List.mem_append.mp ht with q | q
    · exact h.b t q
    · exact h.b t (List.mem_of_mem_take q)
  rcases h.o with q | ⟨us, vs, rfl, lu, lv, bu⟩
  · exact lk_six (by omega) (by omega) lt2 lg bt2 bg (by rw [List.length_append, List.length_take]; omega)
  · have tk : (us ++ vs).take 1 = us.take 1 := by rw [List.take_append_of_le_length (by omega)]
    have l7 : (us ++ vs ++ (us ++ vs).take 1).length = m + vs.length + 1 := by
      rw [tk, List.length_append, List.length_append, List.length_take, lu]
      omega
    have ok := mix_ok m (by omega) m1 vs.length (by omega)
    refine Dd.lst_okB (m := fun i => if i < m then 2 else if i < m + vs.length then 90 else 2) (by omega) (by omega) lt2 lg (fun i c e => ?_) (fun c hc => Bd.mono (by decide) (bt2 c hc)) bg (by omega) (by rw [l7]; exact ok.1) (by rw [l7]; exact ok.2)
    by_cases q1 : i < m
    · rw [if_pos q1]
      rw [List.append_assoc, List.getElem?_append_left (by omega)] at e
      exact bu c (List.mem_of_getElem? e)
    · rw [if_neg q1]
      by_cases q2 : i < m + vs.length
      · rw [if_pos q2]
        exact bt2 c (List.mem_of_getElem? e)
      · rw [if_neg q2, ]
        rw [List.getElem?_append_right (by rw [List.length_append]; omega), tk] at e
        exact bu c (List.mem_of_mem_take (List.mem_of_getElem? e))
theorem cut_one (ys : List V) : cutV ys none (some 1) = ys.take 1 := by
  have e1 : HT.sIx ys.length ys.length (some 1) = min 1 ys.length := HT.sIx_nat ys.length ys.length 1
  have e0 : HT.sIx ys.length 0 none = 0 := rfl
  unfold cutV
  rw [e1, e0, List.drop_zero, Nat.sub_zero, List.take_eq_take_iff]
  omega
theorem cut_three (ys : List V) : cutV ys none (some 3) = ys.take 3 := by
  have e1 : HT.sIx ys.length ys.length (some 3) = min 3 ys.length := HT.sIx_nat ys.length ys.length 3
  have e0 : HT.sIx ys.length 0 none = 0 := rfl
  unfold cutV
  rw [e1, e0, List.drop_zero, Nat.sub_zero, List.take_eq_take_iff]
  omega
theorem va_rev {K : PySem.W.Frag} {H : Hp} {xs : List V} {gs : List (List Int)} (h : VA K H xs gs) : VA K H xs.reverse gs.reverse := ⟨by rw [List.length_reverse, List.length_reverse, h.1], fun i x e => by
  have hi : i < xs.length := by
    have := (List.getElem?_eq_some_iff.mp e).1
    rw [List.length_reverse] at this
    exact this
  rw [List.getElem?_reverse hi] at e
  obtain ⟨a, rfl, h2⟩ := h.2 _ x e
  refine ⟨a, rfl, ?_⟩
  rw [List.getD_eq_getElem?_getD, List.getElem?_reverse (by rw [← h.1]; exact hi), ← List.getD_eq_getElem?_getD, ← h.1]
  exact h2⟩
theorem va_take {K : PySem.W.Frag} {H : Hp} {xs : List V} {gs : List (List Int)} (k : Nat) (h : VA K H xs gs) : VA K H (xs.take k) (gs.take k) := ⟨by rw [List.length_take, List.length_take, h.1], fun i x e => by
  have hi : i < k := by
    have := (List.getElem?_eq_some_iff.mp e).1
    rw [List.length_take] at this
    omega
  rw [List.getElem?_take_of_lt hi] at e
  obtain ⟨a, rfl, h2⟩ := h.2 _ x e
  refine ⟨a, rfl, ?_⟩
  rw [List.getD_eq_getElem?_getD, List.getElem?_take_of_lt hi, ← List.getD_eq_getElem?_getD]
  exact h2⟩
theorem well_upd {p a : Addr} {H : Hp} {o : HO} (h : Well H p) (ne : a ≠ p) : Well (upd H a o) p := by
  obtain ⟨st, c, o1, h1, h2⟩ := h
  exact ⟨st, c, o1, by rw [upd_ne ne.symm]; exact h1, h2⟩
theorem but_nl {p : Addr} {H H' : Hp} (b : But p H H') (h : Well H p) : Nl H H' := fun c o e n => by
  obtain ⟨st, c1, o1, h1, _⟩ := h
  refine b c o e fun q => ?_
  rw [q, h1] at e
  cases e
  exact n _ rfl
theorem but_upd {p D : Addr} {H H1 H2 : Hp} {o : HO} (hD : H D = none) (b1 : But p H H1) (b2 : But p H1 H2) : But p H (upd H2 D o) := fun b u e nb => by
  rw [upd_ne (ne_of_none e hD)]
  exact b2 b u (b1 b u e nb) nb
theorem mem_snoc {ls : List Int} {z : Int} {P : Int → Prop} (h : ∀ y ∈ ls, P y) (hz : P z) : ∀ y ∈ ls ++ [z], P y := fun y hy => by
  rcases List.mem_append.mp hy with q | q
  · exact h y q
  · rw [List.mem_singleton.mp q]
    exact hz
theorem bd27 {g : List Int} (h : ∀ z ∈ g, z.natAbs < 10 ^ 27) : Bd 90 g := fun z hz => Nat.lt_of_lt_of_le (h z hz) (by decide)
theorem sh_three {d : PyData} (h : Sz.Sh d 1600 2) : PyData.showable (.list [d, d, d]) = true ∧ PyData.depth (.list [d, d, d]) ≤ 20 ∧ (PyData.shown (.list [d, d, d])).length ≤ sizeLine := by
  have q := Sz.sh_lst (ds := [d, d, d]) (n := 1600) (k := 2) fun e he => by
    simp only [List.mem_cons, List.not_mem_nil, or_false] at he
    rcases he with rfl | rfl | rfl <;> exact h
  refine ⟨q.sh, Nat.le_trans q.dp (by decide), Nat.le_trans q.len ?_⟩
  show 3 * (1600 + 2) + 2 ≤ sizeLine
  decide
theorem withA {G : Prop} {R : Addr → Hp → Prop} (Pr : Addr → Hp → Prop) (h : (∀ D H, Pr D H → R D H) → G) (hR : ∀ D H, Pr D H → R D H) : G := h hR
end K5
set_option Elab.async false
set_option linter.all false
set_option maxRecDepth 100000
set_option maxHeartbeats 8000000
namespace Ow
open PySem PySem.Spec PyProof.Rows L2
section
variable {X : Cx} {CX : CXT} {k : Nat} {f : Addr} {sp : Sp} {E : XK} {x : Str} {p pos : Pos} {tk : TA} {fd : FuncData} {ps ks : List Str} {kws : List Keyword} {gg : List Value → List Value → List Value} {gV : List V → List V → List V}
/-- x(k = v, ..), x a def of the module, no argument by position -/
def tFnK (n : Nat) (sp : Sp) (gV : List V → List V → List V) (E : XK) (tk : TA) : TE := fun σ H Q => tk σ H fun zs H2 => zs.length = n ∧ sp (gV [] zs) H2 Q E
theorem pe_callK0 (F : FnOk X.prog X.w X.K X.mg X.base CX k f fd ps sp) (hr : Room k X.A) (hg : Gl X x) (hm : X.mg x = some (.ref f)) (hk : PySem.W.keepIn X.K (.ref f) = true) (hb : KBn X.K fd ps 0 ks gg gV) (hx : Passes CX X E) (hkw : PK X kws tk)
    (hall : (backToKw pos (keywordEach kws X.env)).all (·.1.isSome) = true := by rfl) (hks : (backToKw pos (keywordEach kws X.env)).filterMap (·.1) = ks := by rfl) (hdb : (x == ("__debug__" : Str)) = false := by decide)
    (hpl : ((backTo pos (starEach [] X.env)).any (·.1) || (backToKw pos (keywordEach kws X.env)).any (·.1.isNone)) = false := by rfl) :
    PE X (.Call (.Name x p) [] kws pos) (tFnK ks.length sp gV E tk) := by
  refine ⟨fun pins s σ H Q I h => ?_⟩
  refine wpAny_Call_Name_kw (ld_glob I hg hm ?_ hdb)
  refine PySem.W.callWith_KW0 (h₀ := X.base) I.ok.mod.kin hk hall ?_ hpl
  refine thn (hkw.run pos pins s σ H _ I h) fun ws s2 ⟨zs, H2, I2, rz, l2, q2⟩ => ⟨I2.kIn, ?_⟩
  rw [hks]
  refine wpAny_call (codeAny_mono (F.run X.A X.stack s2 H2 ⟨[], ks.zip ws⟩ (gg [] ws) (gV [] zs) Q E hr I2.env0 (hb.to s2 [] ws I2.kIn rfl (rz.length.symm.trans l2)) (hb.rel .nil rz) q2) fun r s' hq => ?_)
  cases r with
  | error e => exact hx pins σ H2 s2 e s' I2 hq
  | ok fl =>
    cases fl with
    | ret u => exact I2.after hq
    | next => exact False.elim hq
    | brk => exact False.elim hq
    | cont => exact False.elim hq
end
end Ow
set_option Elab.async false
set_option linter.all false
set_option maxRecDepth 100000
set_option maxHeartbeats 8000000
set_option exponentiation.threshold 20000
namespace K5
open PySem PySem.Spec PyProof.Rows L2 Gd Rl Vd
open Pg (Mo VA fD iteDN iteDY spLst sLst LstOk LstAns Nl nl_same nl_upd nl_del seqT_nl)
open Dd (Bd Bds Ln reachF endF lowF bestF valsF arrF bdM)
abbrev sRi : Stmt := top 32
abbrev nRi : List Str := ["_law_well_here", "_law_turn", "_law_size", "_law_tests", "_law_shape", "_law_due", "_law_told", "_law_k", "_law_j"]
theorem scRi : FnScope nRi ["_law_well_here"] (defScope sRi) := ⟨rfl, rfl, rfl, by decide +kernel, rfl, by decide +kernel, by decide +kernel⟩
def forB : Stmt → List Stmt
  | .For _ _ b _ _ => b
  | _ => []
def ifB : Stmt → List Stmt
  | .If _ b _ _ => b
  | _ => []
def binL : Expr → Expr
  | .BinOp a _ _ _ => a
  | e => e
def rInt1 : List V → Hp → VK → Prop := fun xs H Q => (∃ i, xs = [.int i] ∧ Q (.int i) H) ∨ ∃ k, xs = [.bl k] ∧ Q (.int (if k then 1 else 0)) H
def spRi : Sp := fun vs H Q _ => ∃ p, vs = [.ref p] ∧ Well H p ∧ ∀ H', But p H H' → Q (.bl true) H'
theorem kb_lst {K : PySem.W.Frag} {f : Addr} {fd : FuncData} (F : FnP K "least" sLst f fd) : Binds K fd ["tests", "form"] [] := F.bindsN fun _ _ _ _ _ _ us hl => match us, hl with | [_, _], _ => rfl
theorem kb_lstK {K : PySem.W.Frag} {f : Addr} {fd : FuncData} (F : FnP K "least" sLst f fd) : KBn K fd ["tests", "form"] 0 ["form", "tests"] (fun _ ws => ws.reverse) (fun _ zs => zs.reverse) := by
  obtain ⟨oc, od, dV, kV, doc, pm, an, cdv, ct, osl, rfl, lk, hcd, hD, hK⟩ := F.ex
  rcases hD with ⟨_, rfl⟩ | ⟨e, _⟩
  · exact ⟨fun s us ws _ l1 l2 => match us, ws, l1, l2 with | [], [_, _], _, _ => .of_eq rfl, fun r1 r2 => r2.reverse⟩
  · exact absurd rfl e
theorem passNo {X : Cx} : Passes (L2.CX X.prog X.w) X (fun _ _ _ => False) := fun pins σ H s e s' I c => passAt (W := fun _ _ _ _ => False) LamX.takes0 σ pins H s e s' I c
section
variable {P : Program} {w : World} {K : PySem.W.Frag} {mg : Str → Option Value} {base : Heap} {f : Addr} {fd : FuncData} {CN CF : Addr}
theorem ok_ri {fD' fP fG fS fW fO fN fL : Addr} {dD dP dG dS dW dO dN dL : FuncData} (F : FnP K "_law_right" sRi f fd) (T : Bl mg) (M : Mo mg) (UM : BlM mg) (L : BlL mg) (U : mg "repr" = none)
    (FD : FnP K "_law_draw" sDraw fD' dD) (gD : mg "_law_draw" = some (.ref fD')) (FP : FnP K "_law_pick" sPick fP dP) (gP : mg "_law_pick" = some (.ref fP)) (FG : FnP K "_law_great" sGr fG dG) (gG : mg "_law_great" = some (.ref fG)) (FS : FnP K "_law_shared" sSh fS dS) (gS : mg "_law_shared" = some (.ref fS))
    (FW : FnP K "_law_without" sWo fW dW) (gW : mg "_law_without" = some (.ref fW)) (FO : FnP K "_law_low" sLo fO dO) (gO : mg "_law_low" = some (.ref fO)) (FN : FnP K "_law_number" sNum fN dN) (gN : mg "_law_number" = some (.ref fN))
    (FL : FnP K "least" sLst fL dL) (gL : mg "least" = some (.ref fL)) (GL : FnOk P w K mg base (L2.CX P w) 6 fL dL ["tests", "form"] (spLst K CN CF)) : FnG P w K mg base 7 f fd ["_law_well_here"] spRi := by
  have GD : FnOk P w K mg base CX0 1 fD' dD ["_law_well_here", "_law_many"] spDraw := ok_draw FD T
  have bD : Binds K dD ["_law_well_here", "_law_many"] [] := FD.bindsN fun _ _ _ _ _ _ us hl => match us, hl with | [_, _], _ => rfl
  have GN : FnOk P w K mg base CX0 3 fN dN ["_law_well_here"] spNum := ok_num FN T M FD gD FP gP FG gG
  have bN : Binds K dN ["_law_well_here"] [] := FN.bindsN fun _ _ _ _ _ _ us hl => match us, hl with | [_], _ => rfl
  have GO : FnOk P w K mg base CX0 2 fO dO ["_law_tests", "_law_shape"] (spLo K) := ok_lo FO T M UM L FS gS FW gW
  have bO : Binds K dO ["_law_tests", "_law_shape"] [] := FO.bindsN fun _ _ _ _ _ _ us hl => match us, hl with | [_, _], _ => rfl
  have bL := kb_lst FL
  refine okG F scRi (fun vs H Q E h => ?_) (fun cdv A outer s H vs Q E hgd hr h => ?_)
  · obtain ⟨p, rfl, _⟩ := h
    rfl
  · obtain ⟨p, rfl, hp, k⟩ := h
    have hr1 := hr.mono (show 1 ≤ 6 by decide)
    have hr2 := hr.mono (show 2 ≤ 6 by decide)
    have hr3 := hr.mono (show 3 ≤ 6 by decide)
    refine ⟨_, PSs.nox <| pss_cons (ps_for PassesOwn.never rfl (pi_range1 (by rfl) M.range (pa_cons pe_int pa_nil)) (pg_name (i := 1) scRi.nd rfl (.inl rfl))
        (pss_cons (ps_set (i := 2) scRi.nd rfl (.inr rfl) (pe_op op_add pe_int (pe_call GD hr1 (by rfl) gD FD.kp bD .nil pass0 (pa_cons (pv 0) (pa_cons pe_int pa_nil)))))
        <| pss_cons (ps_setLc (i := 3) (own := [("_law_k", 7)]) (g := gName 7) (tt := tYes) rfl scRi.nd rfl rfl (sw_true rfl rfl rfl (by decide +kernel)) (pi_range1 (by rfl) M.range (pa_cons (pe_call GD hr1 (by rfl) gD FD.kp bD .nil pass0 (pa_cons (pv 0) (pa_cons pe_int pa_nil))) pa_nil)) (blkOk_by (N := nRi) (sc := defScope sRi) (by decide +kernel)) (fun _ _ _ _ _ => pg_name (i := 7) scRi.nd rfl (by first | exact Or.inl rfl | exact Or.inr rfl)) (fun _ _ _ _ _ => pts_nil) (fun _ _ _ _ _ => (pe_callTy (r := Pg.rTupOf K) call_tuple_of (by rfl) M.tuple (by decide +kernel) (pa_cons (pe_lc (own := [("_law_k", 7)]) (g := gName 7) (tt := tYes) rfl scRi.nd (pi_range1 (by rfl) M.range (pa_cons (pe_op op_add (pv 2) pe_int) pa_nil)) (blkOk_by (N := nRi) (sc := Pg.rlSc (Pg.lcSc (Pg.asgV ((forB ((defBody sRi).getD 0 (.Pass ⟨0, 0, 0, 0⟩))).getD 1 (.Pass ⟨0, 0, 0, 0⟩)))) (defScope sRi)) (by decide +kernel)) (fun _ _ _ _ _ => pg_name (i := 7) scRi.nd rfl (by first | exact Or.inl rfl | exact Or.inr rfl)) (fun _ _ _ _ _ => pts_nil) (fun _ _ _ _ _ => (pe_call GN hr3 (by rfl) gN FN.kp bN .nil pass0 (pa_cons (pv 0) pa_nil)))) pa_nil))))
        <| pss_cons (ps_if (pt_cmpR op_eq (pe_call GD hr1 (by rfl) gD FD.kp bD .nil pass0 (pa_cons (pv 0) (pa_cons pe_int pa_nil))) pe_int (nomark _)) (pss_one (ps_set (i := 3) scRi.nd rfl (.inl rfl) (pe_op op_catR (pe_lc (own := [("_law_k", 7)]) (g := gName 7) (tt := tYes) rfl scRi.nd (pi_range1 (by rfl) M.range (pa_cons (pv 2) pa_nil)) (blkOk_by (N := nRi) (sc := defScope sRi) (by decide +kernel)) (fun _ _ _ _ _ => pg_name (i := 7) scRi.nd rfl (by first | exact Or.inl rfl | exact Or.inr rfl)) (fun _ _ _ _ _ => pts_nil) (fun _ _ _ _ _ => (pe_callTy (r := Pg.rTupOf K) call_tuple_of (by rfl) M.tuple (by decide +kernel) (pa_cons (pe_op op_catR (pe_lc (own := [("_law_j", 8)]) (g := gName 8) (tt := tYes) rfl scRi.nd (pi_range1 (by rfl) M.range (pa_cons (pv 2) pa_nil)) (blkOk_by (N := nRi) (sc := Pg.rlSc (Pg.lcSc (binL (Pg.asgV ((ifB ((forB ((defBody sRi).getD 0 (.Pass ⟨0, 0, 0, 0⟩))).getD 2 (.Pass ⟨0, 0, 0, 0⟩))).getD 0 (.Pass ⟨0, 0, 0, 0⟩))))) (defScope sRi)) (by decide +kernel)) (fun _ _ _ _ _ => pg_name (i := 8) scRi.nd rfl (by first | exact Or.inl rfl | exact Or.inr rfl)) (fun _ _ _ _ _ => pts_nil) (fun _ _ _ _ _ => (pe_callTy (r := rInt1) call_int1 (by rfl) T.int (by decide +kernel) (pa_cons (pe_cmpR op_eq (pv 8) (pv 7) (nomark _)) pa_nil)))) (pe_lstR (pa_cons (pe_call GD hr1 (by rfl) gD FD.kp bD .nil pass0 (pa_cons (pv 0) (pa_cons pe_int pa_nil))) pa_nil))) pa_nil)))) (pe_slice (r := rSlR K) sl_listR (pv 3) po_none (po_some pe_int))))) pss_nil)
        <| pss_cons (ps_set (i := 4) scRi.nd rfl (.inl rfl) (pe_callTy (r := Pg.rTupOf K) call_tuple_of (by rfl) M.tuple (by decide +kernel) (pa_cons (pe_lc (own := [("_law_k", 7)]) (g := gName 7) (tt := tYes) rfl scRi.nd (pi_range1 (by rfl) M.range (pa_cons (pe_op op_add (pv 2) pe_int) pa_nil)) (blkOk_by (N := nRi) (sc := defScope sRi) (by decide +kernel)) (fun _ _ _ _ _ => pg_name (i := 7) scRi.nd rfl (by first | exact Or.inl rfl | exact Or.inr rfl)) (fun _ _ _ _ _ => pts_nil) (fun _ _ _ _ _ => (pe_call GN hr3 (by rfl) gN FN.kp bN .nil pass0 (pa_cons (pv 0) pa_nil)))) pa_nil)))
        <| pss_cons (ps_set (i := 5) scRi.nd rfl (.inl rfl) (pe_call GO hr2 (by rfl) gO FO.kp bO .nil pass0 (pa_cons (pv 3) (pa_cons (pv 4) pa_nil))))
        <| pss_cons (ps_set (i := 6) scRi.nd rfl (.inl rfl) (pe_lstR (pa_cons (pe_callS GL hr (by rfl) gL FL.kp bL (fun σ => passAt LamX.takes0 σ) (pa_cons (pe_callTy (r := Pg.rTupOf K) call_tuple_of (by rfl) M.tuple (by decide +kernel) (pa_cons (pv 3) pa_nil)) (pa_cons (pv 4) pa_nil))) (pa_cons (Ow.pe_callK0 (E := fun _ _ _ => False) GL hr (by rfl) gL FL.kp (kb_lstK FL) passNo (pk_cons (pv 4) (pk_cons (pe_callTy (r := Pg.rTupOf K) call_tuple_of (by rfl) M.tuple (by decide +kernel) (pa_cons (pe_revL (pv 3)) pa_nil)) pk_nil))) pa_nil))))
        <| pss_cons (ps_expr (pe_bm PySem.F.plainAttrs_list PySem.F.slot_list_append PySem.F.type_list_append mt_append (pv 6) (pa_cons (pe_callS GL hr (by rfl) gL FL.kp bL (fun σ => passAt LamX.takes0 σ) (pa_cons (pe_callTy (r := Pg.rTupOf K) call_tuple_of (by rfl) M.tuple (by decide +kernel) (pa_cons (pe_op op_catR (pv 3) (pe_slice (r := rSlR K) sl_listR (pv 3) po_none (po_some pe_int))) pa_nil)) (pa_cons (pv 4) pa_nil))) pa_nil)))
        <| pss_one (ps_if (pt_cmpR op_ne (pe_callB (call_repr hgd hr.units) (by rfl) U boot_repr (pa_cons (pv 6) pa_nil)) (pe_callB (call_repr hgd hr.units) (by rfl) U boot_repr (pa_cons (pe_op op_repR (pe_lstR (pa_cons (pv 5) pa_nil)) pe_int) pa_nil)) (nomark _)) (pss_one (ps_ret pe_bl)) pss_nil)))
      <| pss_one (ps_ret pe_bl), ?_⟩
    refine ⟨4, rfl, by decide, by decide, for_range (n := 4) (fun i σ H' => ∃ (x1 x2 x3 x4 x5 x6 x7 x8 : Option V), σ = [some (.ref p), x1, x2, x3, x4, x5, x6, x7, x8] ∧ Well H' p ∧ But p H H') ⟨none, none, none, none, none, none, none, none, rfl, hp, But.refl⟩ ?_ ?_⟩
    · rintro i σ H1 hi ⟨x1, x2, x3, x4, x5, x6, x7, x8, rfl, hp1, b1⟩
      refine ⟨_, rfl, p, _, rfl, hp1, by decide, by decide, fun d H2 d0 d3 hp2 b2 => ⟨_, _, rfl, rfl, ?_⟩⟩
      obtain ⟨m, hm⟩ : ∃ m : Nat, 1 + d = (m : Int) := ⟨(1 + d).toNat, by omega⟩
      have m1 : 1 ≤ m := by omega
      have m3 : m ≤ 3 := by omega
      show gName 2 (.int (1 + d)) _ H2 _
      rw [hm]
      refine ⟨_, rfl, p, _, rfl, hp2, by decide, by decide, fun c H3 c0 c6 hp3 b3 => ⟨_, rfl, by omega, by omega, fun D hD => ?_⟩⟩
      have dp : D ≠ p := well_ne hp3 hD
      have b13 := (b1.trans b2).trans b3
      refine lc_range (lo := 0) (n := c.toNat) (fun i H' => ∃ (ys : List V) (ts : List (List Int)), H' D = some (.lst ys) ∧ VA K H' ys ts ∧ ts.length = i ∧ (∀ t ∈ ts, t.length = m + 1 ∧ Bd 90 t) ∧ Well H' p ∧ But p H3 H') ⟨[], [], upd_same, VA.nil, rfl, (fun _ h => by cases h), well_upd hp3 dp, But.same (same_new hD)⟩ ?_ ?_
      · rintro j H4 hj ⟨ys, ts, h4, hy4, l4, t4, hp4, b4⟩
        refine ⟨rfl, _, rfl, _, _, rfl, rfl, _, rfl, by omega, by omega, fun D2 hD2 => ?_⟩
        have d2p : D2 ≠ p := well_ne hp4 hD2
        refine lc_range (lo := 0) (n := ((m : Int) + 1).toNat) (fun i H' => ∃ g : List Int, g.length = i ∧ (∀ z ∈ g, z.natAbs < 10 ^ 27) ∧ H' D2 = some (.lst (g.map V.int)) ∧ Well H' p ∧ But p H4 H') ⟨[], rfl, (fun _ h => by cases h), upd_same, well_upd hp4 d2p, But.same (same_new hD2)⟩ ?_ ?_
        · rintro q H5 hq ⟨g, lg, hg, h5, hp5, b5⟩
          refine ⟨rfl, _, rfl, p, rfl, hp5, fun z H6 hz hp6 b6 => ⟨_, b6 _ _ h5 d2p, small1000 (by rw [List.length_map]; omega), g ++ [z], by rw [List.length_append, lg]; rfl, mem_snoc (P := fun z => z.natAbs < 10 ^ 27) hg hz, ?_, well_upd hp6 d2p, but_upd hD2 b5 b6⟩⟩
          rw [upd_same, List.map_append]
          rfl
        · rintro H5 ⟨g, lg, hg, h5, hp5, b5⟩
          refine ⟨D2, _, rfl, .inl ⟨SqL.of h5, fun T1 nT => ?_⟩⟩
          have sT := same_new (o := .tup (g.map V.int)) nT
          have h5D := b5 _ _ h4 dp
          have hDT := sT _ _ h5D
          refine ⟨ys, hDT, small1000 (by rw [hy4.1]; omega), ys ++ [.ref T1], ts ++ [g], upd_same, ?_, by rw [List.length_append, l4]; rfl, fun t ht => ?_, well_upd (hp5.same sT) dp, ?_⟩
          · exact ((((hy4.nl (but_nl b5 hp4)).same sT).push (SqT.of upd_same)).nl (nl_upd hDT))
          · rcases List.mem_append.mp ht with h | h
            · exact t4 t h
            · rw [List.mem_singleton.mp h]
              exact ⟨by omega, bd27 hg⟩
          · exact but_upd hD b4 (b5.trans (But.same sT))
      · rintro H4 ⟨ys, ts, h4, hy4, l4, t4, hp4, b4⟩
        have b14 := b13.trans b4
        refine ⟨_, rfl, p, _, rfl, hp4, by decide, by decide, fun z H5 z0 z1 hp5 b5 => ⟨rfl, _, rfl, ?_⟩⟩
        have b15 := b14.trans b5
        have h5 := b5 _ _ h4 dp
        have hy5 := hy4.nl (but_nl b5 hp4)
        apply withA (fun D' H' => ∃ ys ts, H' D' = some (.lst ys) ∧ VA K H' ys ts ∧ TK m ts ∧ D' ≠ p ∧ Well H' p ∧ But p H H')
        · intro kR
          by_cases hz : z = 0
          · refine iteDY (c := V.int z = V.int 0) (by rw [hz]) ?_
            refine ⟨_, rfl, _, rfl, by omega, by omega, fun D3 hD3 => ?_⟩
            have d3p : D3 ≠ p := well_ne hp5 hD3
            refine lc_range (lo := 0) (n := (m : Int).toNat) (fun i H' => ∃ (zs : List V) (us : List (List Int)), H' D3 = some (.lst zs) ∧ VA K H' zs us ∧ us.length = i ∧ (∀ t ∈ us, t.length = m + 1 ∧ Bd 2 t) ∧ Well H' p ∧ But p H5 H') ⟨[], [], upd_same, VA.nil, rfl, (fun _ h => by cases h), well_upd hp5 d3p, But.same (same_new hD3)⟩ ?_ ?_
            · rintro j H6 hj ⟨zs, us, h6, hy6, l6, t6, hp6, b6⟩
              refine ⟨rfl, _, rfl, _, rfl, by omega, by omega, fun D4 hD4 => ?_⟩
              have d4p : D4 ≠ p := well_ne hp6 hD4
              refine lc_range (lo := 0) (n := (m : Int).toNat) (fun i H' => ∃ g : List Int, g.length = i ∧ Bd 2 g ∧ H' D4 = some (.lst (g.map V.int)) ∧ Same H6 H') ⟨[], rfl, (fun _ h => by cases h), upd_same, same_new hD4⟩ ?_ ?_
              · rintro q H7 hq ⟨g, lg, hg, h7, s7⟩
                refine ⟨rfl, _, rfl, _, rfl, rfl, .inr ⟨_, rfl, _, h7, small1000 (by rw [List.length_map]; omega), g ++ [if decide (V.int (0 + (q : Int)) = V.int (0 + (j : Int))) = true then 1 else 0], by rw [List.length_append, lg]; rfl, mem_snoc (P := fun z => z.natAbs < 2 ^ 2) hg (by split <;> decide), ?_, upd_new s7 hD4⟩⟩
                rw [upd_same, List.map_append]
                rfl
              · rintro H7 ⟨g, lg, hg, h7, s7⟩
                refine ⟨_, rfl, p, _, rfl, hp6.same s7, by decide, by decide, fun e H8 e0 e4 hp8 b8 => ⟨by show 1 ≤ 1000; decide, fun A H9 n9 => ?_⟩⟩
                refine ⟨D4, A, _, _, rfl, rfl, n9.2.2 _ _ (b8 _ _ h7 d4p), n9.2.1, by rw [List.length_map, lg]; show _ + 1 ≤ 1000; omega, fun A2 H10 n10 => ⟨A2, _, rfl, .inl ⟨SqL.of n10.2.1, fun T1 nT => ?_⟩⟩⟩
                have s8T := (n9.2.2.trans n10.2.2).trans (same_new (o := .tup (g.map V.int ++ [V.int e])) nT)
                have b6T : But p H6 (upd H10 T1 (.tup (g.map V.int ++ [V.int e]))) := ((But.same s7).trans b8).trans (But.same s8T)
                have hDT := b6T _ _ h6 d3p
                refine ⟨zs, hDT, small1000 (by rw [hy6.1]; omega), zs ++ [.ref T1], us ++ [g ++ [e]], upd_same, ?_, by rw [List.length_append, l6]; rfl, fun t ht => ?_, well_upd (hp8.same s8T) d3p, but_upd hD3 b6 b6T⟩
                · refine ((hy6.nl (but_nl b6T hp6)).push (SqT.of ?_)).nl (nl_upd hDT)
                  rw [upd_same, List.map_append]
                  rfl
                · rcases List.mem_append.mp ht with h | h
                  · exact t6 t h
                  · rw [List.mem_singleton.mp h]
                    exact ⟨by rw [List.length_append, lg]; show _ + 1 = _; omega, mem_snoc (P := fun z => z.natAbs < 2 ^ 2) hg (by omega)⟩
            · rintro H6 ⟨zs, us, h6, hy6, l6, t6, hp6, b6⟩
              have h6D := b6 _ _ h5 dp
              have hy56 := hy5.nl (but_nl b6 hp5)
              refine ⟨_, rfl, 3, rfl, D, _, rfl, SqL.of h6D, fun S1 H7 n7 => ?_⟩
              rw [cut_three] at n7
              refine ⟨D3, S1, zs, _, rfl, rfl, n7.2.2 _ _ h6, n7.2.1, by rw [hy6.1, List.length_take]; omega, fun D5 H8 n8 => ?_⟩
              have s68 := n7.2.2.trans n8.2.2
              exact kR D5 H8 ⟨_, us ++ ts.take 3, n8.2.1, (hy6.same s68).app ((va_take 3 hy56).same s68), ⟨fun t ht => by
                rcases List.mem_append.mp ht with h | h
                · exact (t6 t h).1
                · exact (t4 t (List.mem_of_mem_take h)).1, fun t ht => by
                rcases List.mem_append.mp ht with h | h
                · exact Bd.mono (by decide) (t6 t h).2
                · exact (t4 t (List.mem_of_mem_take h)).2, by rw [List.length_append, List.length_take]; omega, .inr ⟨us, ts.take 3, rfl, by omega, by rw [List.length_take]; omega, fun t ht => (t6 t ht).2⟩⟩, well_ne (hp6.same n7.2.2) n8.1, hp6.same s68, (b15.trans b6).trans (But.same s68)⟩
          · refine iteDN (c := V.int z = V.int 0) (fun e => hz (V.int.inj e)) ?_
            exact kR D H5 ⟨ys, ts, h5, hy5, ⟨fun t ht => (t4 t ht).1, fun t ht => (t4 t ht).2, by omega, .inl (by omega)⟩, dp, hp5, b15⟩
        · rintro D' H6 ⟨zs, us, h6, hy6, tk, dp6, hp6, b6⟩
          refine ⟨_, rfl, _, _, rfl, rfl, _, rfl, by omega, by omega, fun D2 hD2 => ?_⟩
          have d2p : D2 ≠ p := well_ne hp6 hD2
          refine lc_range (lo := 0) (n := ((m : Int) + 1).toNat) (fun i H' => ∃ g : List Int, g.length = i ∧ (∀ z ∈ g, z.natAbs < 10 ^ 27) ∧ H' D2 = some (.lst (g.map V.int)) ∧ Well H' p ∧ But p H6 H') ⟨[], rfl, (fun _ h => by cases h), upd_same, well_upd hp6 d2p, But.same (same_new hD2)⟩ ?_ ?_
          · rintro q H7 hq ⟨g, lg, hg, h7, hp7, b7⟩
            refine ⟨rfl, _, rfl, p, rfl, hp7, fun z H8 hz hp8 b8 => ⟨_, b8 _ _ h7 d2p, small1000 (by rw [List.length_map]; omega), g ++ [z], by rw [List.length_append, lg]; rfl, mem_snoc (P := fun z => z.natAbs < 10 ^ 27) hg hz, ?_, well_upd hp8 d2p, but_upd hD2 b7 b8⟩⟩
            rw [upd_same, List.map_append]
            rfl
          · rintro H7 ⟨g, lg', hg, h7, hp7, b7⟩
            have lg : g.length = m + 1 := by omega
            have bg := bd27 hg
            have bg400 : Bd 400 g := Bd.mono (by decide) bg
            refine ⟨D2, _, rfl, .inl ⟨SqL.of h7, fun SH nSH => ?_⟩⟩
            have s8 := same_new (o := .tup (g.map V.int)) nSH
            have hSH : SqT K (upd H7 SH (.tup (g.map V.int))) SH (g.map V.int) := SqT.of upd_same
            have hp8 := hp7.same s8
            have b68 : But p H6 (upd H7 SH (.tup (g.map V.int))) := b7.trans (But.same s8)
            show gName 4 (.ref SH) _ (upd H7 SH (.tup (g.map V.int))) _
            generalize upd H7 SH (.tup (g.map V.int)) = H8 at hSH hp8 b68 ⊢
            have h8 := b68 _ _ h6 dp6
            have hy8 := hy6.nl (but_nl b68 hp6)
            have b08 := b6.trans b68
            clear h7 hp7 b7 s8 nSH
            refine ⟨_, rfl, _, rfl, D', SH, zs, us, g, m, rfl, SqL.of h8, hy8, hSH, tk.lt, lg, m1, m3, tk.l, fun t ht => Bd.mono (by decide) (tk.b t ht), Bd.mono (by decide) bg, fun v H9 s9 hv shv => ?_⟩
            have h9 := s9 _ _ h8
            have hy9 := hy8.same s9
            have hS9 := Same.seqT s9 hSH
            have ok1 : LstOk (m + 1) us g := lk_six (by omega) (by omega) tk.lt lg tk.b bg400 tk.l
            have l9 : us.length ≤ 9 := by have := tk.l; omega
            refine ⟨_, rfl, D', zs, rfl, .inl ⟨SqL.of h9, fun T1 nT1 => ⟨_, rfl, lst_ask (SqT.of upd_same) (hy9.same (same_new nT1)) (Same.seqT (same_new nT1) hS9) ok1 l9 (ask_dp fun v1 H10 s10 hv1 => ?_)⟩⟩⟩
            have s910 := (same_new (o := .tup zs) nT1).trans s10
            have h10 := s910 _ _ h9
            have hy10 := hy9.same s910
            have hS10 := Same.seqT s910 hS9
            refine ⟨_, rfl, _, rfl, D', zs, rfl, SqL.of h10, fun R nR => ⟨R, _, rfl, .inl ⟨SqL.of upd_same, fun T2 nT2 => ⟨rfl, ?_⟩⟩⟩⟩
            have sR : Same H10 (upd (upd H10 R (.lst zs.reverse)) T2 (.tup zs.reverse)) := (same_new nR).trans (same_new nT2)
            have ok2 : LstOk (m + 1) us.reverse g := lk_six (by omega) (by omega) (fun t ht => tk.lt t (List.mem_reverse.mp ht)) lg (fun t ht => tk.b t (List.mem_reverse.mp ht)) bg400 (by rw [List.length_reverse]; exact tk.l)
            refine lst_ask (SqT.of upd_same) (va_rev (hy10.same sR)) (Same.seqT sR hS10) ok2 (by rw [List.length_reverse]; exact l9) (ask_dp fun v2 H11 s11 hv2 => ?_)
            rw [ansD_ext (ts := us) (by omega) tk.lt lg fun t => List.mem_reverse] at hv2
            have s1011 := sR.trans s11
            refine ⟨by show 2 ≤ 1000; decide, fun TL H12 n12 => ?_⟩
            have s912 := s910.trans (s1011.trans n12.2.2)
            have h12 := s912 _ _ h9
            have hy12 := hy9.same s912
            have hS12 := Same.seqT s912 hS9
            refine ⟨_, rfl, .inl ⟨rfl, _, SqL.of n12.2.1⟩, _, rfl, _, rfl, 1, rfl, D', _, rfl, SqL.of h12, fun S1 H13 n13 => ?_⟩
            rw [cut_one] at n13
            refine ⟨D', S1, zs, _, rfl, rfl, n13.2.2 _ _ h12, n13.2.1, by rw [hy12.1, List.length_take]; have := tk.l; omega, fun C1 H14 n14 => ⟨C1, _, rfl, .inl ⟨SqL.of n14.2.1, fun T3 nT3 => ⟨_, rfl, ?_⟩⟩⟩⟩
            have s1215 := (n13.2.2.trans n14.2.2).trans (same_new (o := .tup (zs ++ zs.take 1)) nT3)
            have hy15 := hy12.same s1215
            refine lst_ask (SqT.of upd_same) (hy15.app (va_take 1 hy15)) (Same.seqT s1215 hS12) (lk_more m1 m3 tk lg bg400) (by rw [List.length_append, List.length_take]; have := tk.l; omega) (ask_dp fun v3 H16 s16 hv3 => ?_)
            rw [ansD_ext (ts := us) (by omega) tk.lt lg fun t => ⟨fun h => (List.mem_append.mp h).elim id fun q => List.mem_of_mem_take q, fun h => List.mem_append_left _ h⟩] at hv3
            have s1216 := s1215.trans s16
            have hTL := s1216 _ _ n12.2.1
            refine ⟨TL, _, _, rfl, rfl, hTL, by show 2 < sizeLine; decide, ?_⟩
            have s9all : Same H9 H16 := s912.trans s1216
            have nlU : Nl H16 (upd H16 TL (.lst ([v1, v2] ++ [v3]))) := nl_upd hTL
            have hU : upd H16 TL (.lst ([v1, v2] ++ [v3])) TL = some (.lst ([v1, v2] ++ [v3])) := upd_same
            have e0 := dp_ans_nl nlU (dp_ans_nl (nl_same s9all) hv)
            have e1 := dp_ans_nl nlU (dp_ans_nl (nl_same ((s1011.trans n12.2.2).trans s1216)) hv1)
            have e2 := dp_ans_nl nlU (dp_ans_nl (nl_same (n12.2.2.trans s1216)) hv2)
            have e3 := dp_ans_nl nlU hv3
            have hpU : Well (upd H16 TL (.lst ([v1, v2] ++ [v3]))) p := by
              have hp11 := hp8.same ((s9.trans s910).trans s1011)
              exact well_upd (hp11.same (n12.2.2.trans s1216)) (well_ne hp11 n12.1)
            have bU : But p H (upd H16 TL (.lst ([v1, v2] ++ [v3]))) := b08.trans fun b o e nb => by
              have q9 := s9 _ _ e
              have q11 := s1011 _ _ (s910 _ _ q9)
              rw [upd_ne (ne_of_none q11 n12.1)]
              exact s1216 _ _ (n12.2.2 _ _ q11)
            show Ends.nx _ _ (upd H16 TL (.lst ([v1, v2] ++ [v3])))
            generalize upd H16 TL (.lst ([v1, v2] ++ [v3])) = H17 at hU e0 e1 e2 e3 hpU bU ⊢
            obtain ⟨q1, q2, q3⟩ := sh_three shv
            refine ⟨_, rfl, _, .list [ansD (m + 1) us g, ansD (m + 1) us g, ansD (m + 1) us g], rfl, .inl (.lst (SqL.of hU) (.cons e1 (.cons e2 (.cons e3 .nil)))), q1, q2, q3, ?_⟩
            refine ⟨_, rfl, by show 1 ≤ 1000; decide, fun W1 H18 n18 => ?_⟩
            refine ⟨W1, 3, _, rfl, rfl, n18.2.1, by decide, by decide, by show 1 * 3 ≤ 1000; decide, fun W2 H19 n19 => ?_⟩
            have s1719 := n18.2.2.trans n19.2.2
            have e9 := dp_ans_nl (nl_same s1719) e0
            refine ⟨_, .list [ansD (m + 1) us g, ansD (m + 1) us g, ansD (m + 1) us g], rfl, .inl (.lst (SqL.of n19.2.1) (.cons e9 (.cons e9 (.cons e9 .nil)))), q1, q2, q3, rfl, _, rfl, ?_⟩
            rw [show ∀ z : V, (!decide (z = z)) = false from fun z => by simp]
            refine iteF ⟨_, _, _, _, _, _, _, _, rfl, hpU.same s1719, bU.trans (But.same s1719)⟩
    · rintro σ H1 ⟨x1, x2, x3, x4, x5, x6, x7, x8, rfl, hp1, b1⟩
      exact k H1 b1
end
end K5
set_option Elab.async false
set_option linter.all false
set_option maxRecDepth 100000
set_option maxHeartbeats 4000000
namespace K5
open PySem PySem.Spec PyProof.Rows L2 Gd Rl
open Pg (Mo)
abbrev sLaw : Stmt := top 33
structure Bl3 (mg : Str → Option Value) : Prop where
  max : mg "max" = none
  min : mg "min" = none
def spLaw (K : PySem.W.Frag) : Sp := fun vs H Q _ => ∃ (a : Addr) (ns : List Int), vs = [.ref a] ∧ SqL K H a (ns.map V.int) ∧ ns.length ≤ 63 ∧ ∀ H', Q (.bl true) H'
abbrev nLaw : List Str := ["_law_script", "_law_spot"]
theorem scLaw : FnScope nLaw ["_law_script"] (defScope sLaw) := ⟨rfl, rfl, rfl, by decide +kernel, rfl, by decide +kernel, by decide +kernel⟩
section
variable {P : Program} {w : World} {K : PySem.W.Frag} {mg : Str → Option Value} {base : Heap} {f : Addr} {fd : FuncData}
theorem ok_law {fG fR : Addr} {dG dR : FuncData} (F : FnP K "law" sLaw f fd) (TB : Bl mg) (M0 : Mo mg) (U : Bl3 mg)
    (FG : FnP K "_law_well" sWell fG dG) (gG : mg "_law_well" = some (.ref fG)) (FR : FnP K "_law_right" sRi fR dR) (gR : mg "_law_right" = some (.ref fR)) (GR : FnG P w K mg base 7 fR dR ["_law_well_here"] spRi) : FnG P w K mg base 8 f fd ["_law_script"] (spLaw K) := by
  have GG : FnOk P w K mg base CX0 1 fG dG ["_law_script", "_law_spot"] (spWell K) := ok_well FG TB
  have bG : Binds K dG ["_law_script", "_law_spot"] [] := FG.bindsN fun _ _ _ _ _ _ us hl => match us, hl with | [_, _], _ => rfl
  have bR : Binds K dR ["_law_well_here"] [] := FR.bindsN fun _ _ _ _ _ _ us hl => match us, hl with | [_], _ => rfl
  refine okG F scLaw (fun vs H Q E h => ?_) (fun cdv A outer s H vs Q E hgd hr h => ?_)
  · obtain ⟨a, ns, rfl, _⟩ := h
    rfl
  · obtain ⟨a, ns, rfl, hS, hn, k1⟩ := h
    have hr1 := hr.mono (show 1 ≤ 7 by decide)
    refine ⟨_, PSs.nox <| pss_one (ps_ret (pe_callB (cr_all rfl) (by rfl) M0.all (by decide +kernel) (pa_cons (pe_lc (own := [("_law_spot", 1)]) (g := gName 1) (tt := tYes) rfl scLaw.nd
          (pi_range1 (by rfl) M0.range (pa_cons (pe_callB (call_max2 rfl) (by rfl) U.max (by decide +kernel) (pa_cons pe_int (pa_cons (pe_callB (call_min2 rfl) (by rfl) U.min (by decide +kernel) (pa_cons (pe_callB call_len (by rfl) M0.len PySem.boot_len (pa_cons (pv 0) pa_nil)) (pa_cons pe_int pa_nil))) pa_nil))) pa_nil))
          (blkOk_by (N := nLaw) (sc := defScope sLaw) (by decide +kernel)) (fun _ _ _ _ _ => pg_name (i := 1) scLaw.nd rfl (Or.inl rfl)) (fun _ _ _ _ _ => pts_nil)
          (fun _ _ _ _ _ => pe_callG GR hgd hr (by rfl) gR FR.kp bR (pa_cons (pe_call GG hr1 (by rfl) gG FG.kp bG .nil pass0 (pa_cons (pv 0) (pa_cons (pv 1) pa_nil))) pa_nil))) pa_nil))), ?_⟩
    refine ⟨_, rfl, _, (ns.map V.int).length, rfl, .inl ⟨_, hS, rfl⟩, _, _, rfl, _, _, rfl, ?_⟩
    generalize hM : (if (if (3 : Int) < ((ns.map V.int).length : Int) then (3 : Int) else ((ns.map V.int).length : Int)) > 2 then (if (3 : Int) < ((ns.map V.int).length : Int) then (3 : Int) else ((ns.map V.int).length : Int)) else 2) = M
    have m0 : 0 ≤ M ∧ M ≤ 4 := by
      rw [← hM]
      split <;> split <;> omega
    refine ⟨M, rfl, by omega, by omega, fun D hD => lc_range (lo := 0) (n := M.toNat) (fun i H' => Same H H' ∧ H' D = some (.lst (List.replicate i (V.bl true)))) ⟨same_new hD, upd_same⟩ ?_ ?_⟩
    · rintro i H' hi ⟨sx, hd⟩
      refine ⟨rfl, ?_⟩
      refine ⟨_, rfl, _, rfl, a, ns, i, (by rw [Int.zero_add]; rfl), sx.seq hS, hn, by omega, fun p Hp sp np pp => ?_⟩
      refine ⟨p, rfl, pp, fun Hq bt => ?_⟩
      have hd2 : Hq D = some (.lst (List.replicate i (V.bl true))) := bt D _ (sp _ _ hd) (ne_of_none hd np)
      refine ⟨_, hd2, (by rw [List.length_replicate]; exact small1000 (by omega)), fun b u e => ?_, ?_⟩
      · rw [upd_ne (ne_of_none e hD)]
        exact bt b u (sp _ _ (sx _ _ e)) (ne_of_none (sx _ _ e) np)
      · rw [upd_same, List.replicate_succ']
    · rintro H' ⟨sx, hd⟩
      have hd2 : H' D = some (.lst ((List.replicate M.toNat true).map V.bl)) := by
        rw [List.map_replicate]
        exact hd
      refine ⟨D, _, rfl, SqL.of hd2, ?_⟩
      rw [show (List.replicate M.toNat true).all id = true by simp]
      exact k1 H'
end
end K5
set_option Elab.async false
set_option linter.all false
set_option maxRecDepth 100000
set_option maxHeartbeats 0
namespace K5
open PySem PySem.Spec PyProof.Rows L2 Gd Rl
theorem facts {w : World} {K : PySem.W.Frag} {h : Heap} {mg : Str → Option Value} {f : Addr} (X : K.In h) (G : h.Ns mainGlobals mg) (hfa : mg ("law" : Str) = some (.ref f)) (cc : SaysK K) :
    ∃ fd : FuncData, (∀ (s : Shared) (v : Value), BindsTo s fd ⟨[v], []⟩ [("_law_script", v)]) ∧ ∀ base : Heap, K.In base → base.Ns mainGlobals mg → (∀ p ∈ tf, LamX.TabB base mg (He.cT K p).1 (He.cT K p).2) → FnG (PySem.Challenge.rw_fallranks_k21_whole_least_by_taking_vari).prog w K mg base 8 f fd ["_law_script"] (spLaw K) := by
  have c : He.SaysD fa fn K := congrArg (fun z : AlK => z.1) cc
  have c2 : exB K = true := congrArg (fun z : AlK => z.2.1) cc
  have c4 : (el.map fun e => Hz.fnI K (Hz.eI K e.1)) = el.map fun e => Hz.fnV e.2.2.2 := congrArg (fun z : AlK => z.2.2) cc
  obtain ⟨y2, gc⟩ := Bool.and_eq_true_iff.mp c2
  have gg : mg "gcd" = some (.builtin "math.gcd") := PySem.W.mg_of X G (He.eqO_ok gc)
  have free : ∀ (i : Nat) (x : Str), fa[i]? = some (.free x) → mg x = none := fun i x e => He.free_ok X G (c.fact i (f := .free x) e)
  have glo : ∀ (i : Nat) (x : Str), fa[i]? = some (.glo x) → mg x = some (.ref (He.ga K x)) := fun i x e => He.glo_ok X G (c.fact i (f := .glo x) e)
  obtain ⟨d0, F0⟩ := c.def_ 0 (d := dd "is_integer" Pg.sInt) rfl
  obtain ⟨d1, F1⟩ := c.def_ 1 (d := dd "are_integers" Pg.sInts) rfl
  obtain ⟨d2, F2⟩ := c.def_ 2 (d := dd "weighed" Pg.sWei) rfl
  obtain ⟨d3, F3⟩ := c.def_ 3 (d := dd "least" Pg.sLst) rfl
  obtain ⟨d4, F4⟩ := c.def_ 4 (d := dd "_check_tests" Pg.sChk) rfl
  obtain ⟨d5, F5⟩ := c.def_ 5 (d := dd "_is_any_form" Pg.sAnyF) rfl
  obtain ⟨d6, F6⟩ := c.def_ 6 (d := dd "least_at" Pg.sLat) rfl
  obtain ⟨d7, F7⟩ := c.def_ 7 (d := dd "reach_points" Pg.sRea) rfl
  obtain ⟨d8, F8⟩ := c.def_ 8 (d := dd "lowest" Pg.sLow) rfl
  obtain ⟨d9, F9⟩ := c.def_ 9 (d := dd "arrows" Pg.sArr) rfl
  obtain ⟨d10, F10⟩ := c.def_ 10 (d := dd "_cut" Pg.sCut) rfl
  obtain ⟨d11, F11⟩ := c.def_ 11 (d := dd "_leveled" Pg.sLev) rfl
  obtain ⟨d12, F12⟩ := c.def_ 12 (d := dd "_cut_arrows" Pg.sCa) rfl
  obtain ⟨d13, F13⟩ := c.def_ 13 (d := dd "_are_neighbours" Pg.sNb) rfl
  obtain ⟨d14, F14⟩ := c.def_ 14 (d := dd "_law_well" sWell) rfl
  obtain ⟨d15, F15⟩ := c.def_ 15 (d := dd "_law_draw" sDraw) rfl
  obtain ⟨d16, F16⟩ := c.def_ 16 (d := dd "_law_pick" sPick) rfl
  obtain ⟨d17, F17⟩ := c.def_ 17 (d := dd "_law_great" sGr) rfl
  obtain ⟨d18, F18⟩ := c.def_ 18 (d := dd "_law_shared" sSh) rfl
  obtain ⟨d19, F19⟩ := c.def_ 19 (d := dd "_law_without" sWo) rfl
  obtain ⟨d20, F20⟩ := c.def_ 20 (d := dd "_law_low" sLo) rfl
  obtain ⟨d21, F21⟩ := c.def_ 21 (d := dd "_law_number" sNum) rfl
  obtain ⟨d22, F22⟩ := c.def_ 22 (d := dd "_law_right" sRi) rfl
  obtain ⟨d23, F23⟩ := c.def_ 23 (d := dd "law" sLaw) rfl
  have ee := hfa.symm.trans (glo 23 "law" rfl)
  cases ee
  have b := FunD.bindsA (ps := ["_law_script"]) F23 fun _ _ _ _ _ _ us hl => match us, hl with | [_], _ => rfl
  have M0 : Pg.Mo mg := ⟨(free 24 "isinstance" rfl), (free 25 "int" rfl), (free 26 "bool" rfl), (free 27 "tuple" rfl), (free 28 "len" rfl), (free 29 "all" rfl), (free 30 "any" rfl), (free 31 "enumerate" rfl), (free 32 "range" rfl), (free 33 "sum" rfl), (free 34 "zip" rfl), (He.int_ok X G (c.fact 42 (f := .int "MOST_VARIABLES" 3) rfl)), (He.int_ok X G (c.fact 43 (f := .int "MOST_FORMS" 9) rfl))⟩
  have T1 : Bl mg := ⟨(free 28 "len" rfl), (free 35 "divmod" rfl), (free 25 "int" rfl), (free 36 "abs" rfl)⟩
  have su : mg "super" = none := (free 39 "super" rfl)
  have er0 : Hz.ErrS (PySem.Challenge.rw_fallranks_k21_whole_least_by_taking_vari).prog K mg "InvalidForms" "index" 0 := Hz.errS_ok (st := eSt0) (by kernel_rfl) (by kernel_rfl) X G su (.inr rfl) (List.all_eq_true.mp y2 ("InvalidForms", "index", 0, eSt0) (by simp [el])) (by have e2 := congrArg (fun l => l[0]?) c4; simpa [el] using e2) eTx0
  have EK0 : Pg.ErrK (PySem.Challenge.rw_fallranks_k21_whole_least_by_taking_vari).prog K mg "InvalidForms" (Hz.eC K "InvalidForms") (Hz.eW K 0) (Hz.eI K "InvalidForms") "index" := ⟨er0.e, er0.g, er0.i.ex, er0.ty⟩
  have er1 : Hz.ErrS (PySem.Challenge.rw_fallranks_k21_whole_least_by_taking_vari).prog K mg "InvalidForm" "given" 0 := Hz.errS_ok (st := eSt1) (by kernel_rfl) (by kernel_rfl) X G su (.inl rfl) (List.all_eq_true.mp y2 ("InvalidForm", "given", 0, eSt1) (by simp [el])) (by have e2 := congrArg (fun l => l[1]?) c4; simpa [el] using e2) eTx1
  have EK1 : Pg.ErrK (PySem.Challenge.rw_fallranks_k21_whole_least_by_taking_vari).prog K mg "InvalidForm" (Hz.eC K "InvalidForm") (Hz.eW K 0) (Hz.eI K "InvalidForm") "given" := ⟨er1.e, er1.g, er1.i.ex, er1.ty⟩
  have U3 : Bl3 mg := ⟨(free 37 "max" rfl), (free 38 "min" rfl)⟩
  have UM : BlM mg := ⟨(free 37 "max" rfl)⟩
  have UL : BlL mg := ⟨(free 40 "list" rfl)⟩
  refine ⟨_, fun s v => b s [v] rfl, fun base kb nb2 _ => ?_⟩
  have GL := Pg.ok_lst (P := (PySem.Challenge.rw_fallranks_k21_whole_least_by_taking_vari).prog) (w := w) (base := base) F3 M0 gg F0 (glo 0 "is_integer" rfl) F1 (glo 1 "are_integers" rfl) F5 (glo 5 "_is_any_form" rfl) F4 (glo 4 "_check_tests" rfl) F2 (glo 2 "weighed" rfl) F8 (glo 8 "lowest" rfl) F11 (glo 11 "_leveled" rfl) F13 (glo 13 "_are_neighbours" rfl) F12 (glo 12 "_cut_arrows" rfl) F10 (glo 10 "_cut" rfl) F9 (glo 9 "arrows" rfl) F6 (glo 6 "least_at" rfl) F7 (glo 7 "reach_points" rfl) EK0 EK1
  have GR := ok_ri (P := (PySem.Challenge.rw_fallranks_k21_whole_least_by_taking_vari).prog) (w := w) (base := base) F22 T1 M0 UM UL (free 41 "repr" rfl) F15 (glo 15 "_law_draw" rfl) F16 (glo 16 "_law_pick" rfl) F17 (glo 17 "_law_great" rfl) F18 (glo 18 "_law_shared" rfl) F19 (glo 19 "_law_without" rfl) F20 (glo 20 "_law_low" rfl) F21 (glo 21 "_law_number" rfl) F3 (glo 3 "least" rfl) GL
  exact ok_law F23 T1 M0 U3 F14 (glo 14 "_law_well" rfl) F22 (glo 22 "_law_right" rfl) GR
end K5
open PySem PySem.W PySem.Calls PyProof.Rows
theorem PySem.Challenge.cw_fallranks_k21_whole_least_by_taking_vari_holds : PySem.Challenge.rw_fallranks_k21_whole_least_by_taking_vari.Holds := by
  w_on; o_law
  refine HandSHeadRun.head_imp (r := OpenLaw.row PySem.Challenge.rw_fallranks_k21_whole_least_by_taking_vari) (q := view (OpenLaw.row PySem.Challenge.rw_fallranks_k21_whole_least_by_taking_vari).prog [0, 33]) (H := K5.hk) (ob := K5.ob) (M := 9000) (loose := K5.names) (d := HandSHeadRun.topDef (OpenLaw.row PySem.Challenge.rw_fallranks_k21_whole_least_by_taking_vari).prog 33) (kwd := []) K5.ob_eq
    K5.run (by kernel_rfl) (by kernel_rfl) (by kernel_rfl) (by rfl) (by first | assumption | decide +kernel) (by decide +kernel) ⟨rfl, rfl, rfl, rfl, rfl, by decide +kernel⟩ ?hw ?hc
  case hw => w_witness2
  case hc =>
    refine Gd.walk_GT (l := PySem.Challenge.rw_fallranks_k21_whole_least_by_taking_vari) (n := 63) (k := 8) (x := "_law_script") rfl (by decide) (by kernel_rfl) ⟨rfl, by decide, by decide⟩ ?F
    intro w mg fa h Y G hmg0
    obtain ⟨K, KX, c, tb⟩ := Y
    have hmg : mg ("law" : PySem.Str) = some (.ref fa) := by
      have e : (HandSHeadRun.topDef (OpenLaw.row PySem.Challenge.rw_fallranks_k21_whole_least_by_taking_vari).prog 33).name = ("law" : PySem.Str) := by kernel_rfl
      rw [← e]
      exact hmg0
    obtain ⟨fd, hb, hF⟩ := K5.facts (w := w) KX G hmg c
    refine ⟨K, fd, K5.spLaw K, K5.tf.map fun p => He.cT K p, KX, ⟨fun q hq => ?_, fun q hq => ?_, fun q hq => ?_⟩, hb, fun H a ns hl hbits hH hS => ⟨a, ns, rfl, hS, hl, fun _ => rfl⟩, fun base kb nb tB => hF base kb nb fun p hp => tB _ (List.mem_map.mpr ⟨p, hp, rfl⟩)⟩
    · obtain ⟨p, hp, rfl⟩ := List.mem_map.mp hq
      exact (tb p hp).2.2
    · obtain ⟨p, hp, rfl⟩ := List.mem_map.mp hq
      exact (tb p hp).2.1
    · obtain ⟨p, hp, rfl⟩ := List.mem_map.mp hq
      exact PySem.W.codeHd_of_K KX (tb p hp).1
