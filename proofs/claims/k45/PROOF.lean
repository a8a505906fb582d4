import PyProof.Rows.All
import Wide.All
import OpenK.AllK
import Wide.FinOn
import HandS.ForMost
import HandS.ForExc
import HandS.Defaults
import KE.KExcSuper
import HandS.ExcInit
import HandS.HeadWalk
import KE.KExcIs
import HandS.ExcValue
import HandS.ExcField
import HandS.IsInst
import HandS.Walk
import HandS.CallLocal
import KE.KCallOwn
import OpenK.KOps
import HandS.Property
import HandS.ClsMeth
import HandS.HeadHook1
import HandS.HeadHook2
import HandS.EndBits
import HandS.EndTab
import HandS.Words
import HandS.Head0
import HandS.Head1
import HandS.Head2
import HandS.Head3
import HandS.HeadEnd
import HandS.HeadHook3
import HandS.HeadHook4
import KE.GoesEnum
import HandS.TupAny
import HandS.Text
import KE.IntTextLaws
import HandS.FStr
import HandS.Star
import HandS.StrMore
import HandS.RaiseMore
import HandS.Wide
import KE.DataEq
import HandS.HotCalls
import HandS.ExcOwn
import KE.IntBitsLaws
import HandS.Zip
import HandS.More
import HandS.TryOnly
import HandS.MakeKwOnly
import PySem.Challenge.RW_fallranks_k45_endless_runs_judged
set_option Elab.async false
set_option linter.all false
set_option maxRecDepth 100000
set_option maxHeartbeats 4000000
namespace Gd
open PySem PySem.Spec PyProof.Rows L2
/-! defs that show lists: no list is being shown around them -/
/-- a promise kept where nothing is being shown -/
structure FnG (P : Program) (w : World) (K : PySem.W.Frag) (mg : Str → Option Value) (base : Heap) (k : Nat) (f : Addr) (fd : FuncData) (ps : List Str) (sp : Sp) : Prop where
  len : ∀ vs H Q E, sp vs H Q E → vs.length = ps.length
  run : ∀ (A : Around) (outer : List Env) (s : Shared) (H : Hp) (args : Args) (us : List Value) (vs : List V) (Q : VK) (E : XK), A.guards = some [] → Room k A → Env0 P w K mg base A outer s H → BindsTo s fd args (ps.zip us) → Vals vs us → sp vs H Q E →
    codeAny (model P w) A (.call (.ref f) args) (CR CX0 outer P w H s Q E) s
theorem deeper_guards {A : Around} {env : Env} (h : A.guards = some []) : (A.deeper env).guards = some [] := by
  first
    | exact h
    | simpa [Around.deeper] using h
section
variable {P : Program} {w : World} {K : PySem.W.Frag} {mg : Str → Option Value} {base : Heap} {x qual : Str} {params : Arguments} {body : List Stmt} {scope : Scope} {dvs : List V} {kws : List (Str × V)} {f : Addr} {fd : FuncData}
theorem okG {N ps : List Str} {k : Nat} {sp : Sp} (F : FunD K x qual params body scope dvs kws f fd) (S : FnScope N ps scope) (len : ∀ vs H Q E, sp vs H Q E → vs.length = ps.length)
    (hbody : ∀ (cdv : Value) (A : Around) (outer : List Env) (s : Shared) (H : Hp) (vs : List V) (Q : VK) (E : XK), (A.deeper (envOfC qual scope s.heap.objs.size f cdv)).guards = some [] → Room k (A.deeper (envOfC qual scope s.heap.objs.size f cdv)) → sp vs H Q E →
      ∃ t, PSs (cxOf CX0 P w K mg base N qual scope f cdv A outer s H E) body t ∧ t { nx := fun _ H' => Q .non H', rt := Q } (start N vs) H) : FnG P w K mg base (k + 1) f fd ps sp := by
  obtain ⟨oc, od, dV, kV, doc, pm, an, cdv, ct, osl, rfl, lk, hcd, _, _⟩ := F.ex
  refine ⟨len, fun A outer s H args us vs Q E hgd hr e0 hb r hsp => ?_⟩
  have hlv := len _ _ _ _ hsp
  have KX : K.In s.heap := e0.mod.kin.keeps fun b o e => (e0.bs b o e).1
  have lim : s.heap.NoLimit := e0.mod.nolimit.keeps fun b o e => (e0.bs b o e).1
  have hkd : ∀ y ∈ ps.zip us, scope.names.lookup y.1 = some .local ∨ (scope.names.lookup y.1 = some .cell ∧ ((cellsFrom (s.heap.objs.size + 1) scope.names []).lookup y.1).isSome = true) := fun ⟨n, v⟩ hy => by
    rcases S.par n (List.of_mem_zip hy).1 with q | q
    · exact .inl q
    · exact .inr ⟨q, PySem.W.cellsFrom_some _ _ _ (.inl q)⟩
  refine codeAny_call_function hr.depth (KX _ _ lk) rfl S.co S.gen rfl (PySem.W.codeRec_of KX hcd) (hb _ _ _ _ ?_)
  refine wpAny_newFunctionEnv_cells S.kind hkd fun env he s1 z => ?_
  subst he
  refine ⟨lim.keeps z.toInCall.keep, codeAny_func ?_⟩
  obtain ⟨t, ht, hq⟩ := hbody cdv A outer s H vs Q E (deeper_guards hgd) (hr.deeper _) hsp
  have I : Inv (cxOf CX0 P w K mg base N qual scope f cdv A outer s H E) [] (start N vs) H s1 := inv_start S hr.hd e0 hlv r z
  refine wpAny_mono (ht.run [] s1 (start N vs) H _ I hq) (fun fl s' hs => ?_) fun e s' hs => hs
  cases fl with
  | ret u =>
    obtain ⟨v, σ', H', J, rv, q⟩ := hs
    exact ⟨v, H', J.os, J.bare, J.base, J.hok, rv, q⟩
  | next =>
    obtain ⟨σ', H', J, q⟩ := hs
    exact ⟨V.non, H', J.os, J.bare, J.base, J.hok, rfl, q⟩
  | brk =>
    obtain ⟨_, _, _, q⟩ := hs
    exact q.elim
  | cont =>
    obtain ⟨_, _, _, q⟩ := hs
    exact q.elim
end
section
variable {X : Cx} {k : Nat} {f : Addr} {fd : FuncData} {ps : List Str} {sp : Sp} {x : Str} {p pos : Pos} {e : Expr} {es : List Expr} {t : TA}
/-- such a def called -/
theorem pe_callG (F : FnG X.prog X.w X.K X.mg X.base k f fd ps sp) (hgd : X.A.guards = some []) (hr : Room k X.A) (hg : Gl X x) (hm : X.mg x = some (.ref f)) (hk : PySem.W.keepIn X.K (.ref f) = true) (hb : Binds X.K fd ps [])
    (ha : PA X (e :: es) t) (hdb : (x == ("__debug__" : Str)) = false := by decide) (he : starEach (e :: es) X.env = (false, eval e X.env) :: starEach es X.env := by rfl) (hpl : (backTo pos (starEach es X.env)).any (·.1) = false := by rfl) :
    PE X (.Call (.Name x p) (e :: es) [] pos) (tCall sp [] E0 t) := by
  refine ⟨fun pins s σ H Q I h => ?_⟩
  refine wpAny_Call_Name_kw (ld_glob I hg hm ?_ hdb)
  refine PySem.W.callWith_K (h₀ := X.base) I.ok.mod.kin hk (thn (ha.run pos pins s σ H _ I h) fun us s1 ⟨vs, H1, I1, r, q⟩ => ⟨I1.kIn, ?_⟩) he hpl
  have r2 : Vals (vs ++ []) (us ++ []) := r.append .nil
  have hl : (us ++ []).length = ps.length := by
    rw [← r2.length]
    exact F.len _ _ _ _ q
  refine wpAny_call (codeAny_mono (F.run X.A X.stack s1 H1 ⟨us, []⟩ (us ++ []) (vs ++ []) Q E0 hgd hr I1.env0 (hb s1 us I1.kIn hl) r2 q) fun r s' hq => ?_)
  cases r with
  | error er => exact hq.elim
  | ok fl =>
    cases fl with
    | ret u => exact I1.after hq
    | next => exact hq.elim
    | brk => exact hq.elim
    | cont => exact hq.elim
/-! ### repr of data -/
/-- data that stands: as Dp, or a dict of flat things at its top -/
def flatD : V → Option PyData
  | .non => some .none
  | .bl b => some (.bool b)
  | .int i => some (.int i)
  | .str z => some (.str z)
  | _ => none
def keyD : Key → PyData
  | .inl i => .int i
  | .inr z => .str z
def flatR (q : Key × V) (p : PyData × PyData) : Prop := p.1 = keyD q.1 ∧ flatD q.2 = some p.2
def Rp (K : PySem.W.Frag) (H : Hp) (v : V) (d : PyData) : Prop := Dp K H v d ∨ ∃ (a : Addr) (kvs : List (Key × V)) (ds : List (PyData × PyData)), v = .ref a ∧ H a = some (.dK kvs) ∧ Paired flatR kvs ds ∧ d = .dict ds
theorem flat_reads {h : Heap} {v : V} {u : Value} {d : PyData} (r : RelV v u) (e : flatD v = some d) : Reads h u d [] := by
  cases v with
  | non =>
    cases r
    cases e
    exact .none
  | bl b =>
    cases r
    cases e
    exact .bool b
  | int i =>
    obtain ⟨t, rfl⟩ := r
    cases e
    exact .int i t
  | str z =>
    obtain ⟨t, rfl⟩ := r
    cases e
    exact .str z t
  | byt _ => cases e
  | flt _ => cases e
  | ref _ => cases e
  | ty _ => cases e
theorem key_reads {h : Heap} {k : Key} {u : Value} (r : keyIs k u = true) : Reads h u (keyD k) [] := by
  rcases keyIs_shape r with ⟨i, t, rfl, rfl⟩ | ⟨z, t, rfl, rfl⟩
  · exact .int i t
  · exact .str z t
theorem dict_reads {P : Program} {w : World} {h : Heap} : ∀ {kvs : List (Key × V)} {vs : List (Key × Value)} {es : List DictEntry} {ds : List (PyData × PyData)}, KV kvs vs → Pairs (mixKind P w) es vs → Paired flatR kvs ds →
    ReadsAll h (es.map (·.key)) (ds.map (·.1)) [] ∧ ReadsAll h (es.map (·.val)) (ds.map (·.2)) []
  | _, _, _, _, .nil, .nil, .nil => ⟨.nil, .nil⟩
  | _, _, _, _, .cons r t, .cons a b c, .cons f g => by
    obtain ⟨h1, h2⟩ := dict_reads t c g
    obtain ⟨r1, r2⟩ := r
    obtain ⟨f1, f2⟩ := f
    refine ⟨?_, ?_⟩
    · have k1 := key_reads (h := h) a
      rw [← r1, ← f1] at k1
      exact ReadsAll.cons (bs := []) k1 h1
    · have k2 := flat_reads (h := h) r2 f2
      rw [← b] at k2
      exact ReadsAll.cons (bs := []) k2 h2
theorem dp_nodict : ∀ {K : PySem.W.Frag} {H : Hp} (d : PyData) {v : V}, Dp K H v d → d.hasDict = false
  | _, _, .none, _, _ => rfl
  | _, _, .bool _, _, _ => rfl
  | _, _, .int _, _, _ => rfl
  | _, _, .str _, _, _ => rfl
  | K, H, .list ds, _, h => by
    cases h with
    | lst hs ha =>
      simp only [PyData.hasDict]
      exact dp_nodictAll ds ha
  | K, H, .tuple ds, _, h => by
    cases h with
    | tup hs ha =>
      simp only [PyData.hasDict]
      exact dp_nodictAll ds ha
  | _, _, .dict _, _, h => by cases h
where dp_nodictAll {K : PySem.W.Frag} {H : Hp} : ∀ (ds : List PyData) {vs : List V}, DpAll K H vs ds → PyData.hasDictAll ds = false
  | [], _, _ => rfl
  | d :: ds, _, h => by
    cases h with
    | cons h1 h2 =>
      simp only [PyData.hasDictAll, dp_nodict d h1, dp_nodictAll ds h2, Bool.or_self]
/-- repr of such data -/
theorem call_repr (hgd : X.A.guards = some []) (hu : X.A.units + 64 < cLine) : CallR X (.builtin "repr") (fun xs H Q => ∃ v d, xs = [v] ∧ Rp X.K H v d ∧ PyData.showable d = true ∧ d.depth ≤ 20 ∧ d.shown.length ≤ sizeLine ∧ Q (.str d.shown) H) := by
  intro pins s σ H xs us Q I r h
  obtain ⟨v, d, rfl, hd, hs, hdp, hsz, q⟩ := h
  obtain ⟨u, rfl, ru⟩ := vals1 r
  have go : ∀ (a : Addr) (as : List Addr), u = .ref a → Reads s.heap u d as → (d.hasDict = true → sysModules ∉ as) → wpAny (model X.prog X.w) X.A (call (.builtin "repr") [u]) (EP X pins σ Q) X.xe s := by
    intro a as e rd hm
    subst e
    exact repr_of_reads' rd hs hm hgd (by omega) (fun _ _ e => e) (fun h' t tk kk => ⟨.str d.shown, H, I.kept (t' := tk) kk, ⟨t, rfl⟩, q⟩) hsz
  rcases hd with hd | ⟨a, kvs, ds, rfl, ha, hp, rfl⟩
  · have hn := dp_nodict d hd
    obtain ⟨as, rd⟩ := Dp.reads I d v u hd ru
    cases hd with
    | non =>
      cases ru
      simp only [PyData.shown] at q
      exact P.repr_of_none ⟨.str _, H, I.tok _, ⟨_, rfl⟩, q⟩
    | bl b =>
      cases ru
      simp only [PyData.shown] at q
      exact P.repr_of_bool ⟨.str _, H, I.tok _, ⟨_, rfl⟩, q⟩
    | int i =>
      obtain ⟨t, rfl⟩ := ru
      exact P.repr_of_int (by simpa [PyData.showable] using hs) ⟨.str _, H, I.tok _, ⟨_, rfl⟩, by simpa only [PyData.shown] using q⟩
    | str z =>
      obtain ⟨t, rfl⟩ := ru
      exact P.repr_of_str ⟨.str _, H, I.tok _, ⟨_, rfl⟩, by simpa only [PyData.shown] using q⟩ (by simpa only [PyData.shown] using hsz)
    | lst h1 h2 =>
      cases ru
      exact go _ as rfl rd fun z => by rw [hn] at z; cases z
    | tup h1 h2 =>
      cases ru
      exact go _ as rfl rd fun z => by rw [hn] at z; cases z
  · cases ru
    obtain ⟨_, hsy, vs, kv, o, es, ep, e1, e2, e3, _, e5, _⟩ := (show ObjOk X.prog X.w H s.heap a (.dK kvs) from I.hok a _ ha)
    obtain ⟨k1, k2⟩ := dict_reads (h := s.heap) kv e5 hp
    refine go a (a :: [] ++ []) rfl (Reads.dict e1 e2.1 e3 k1 k2) fun _ z => ?_
    simp only [List.append_nil, List.mem_singleton, List.append_eq] at z
    rw [← z] at hsy
    simp at hsy
end
end Gd
set_option Elab.async false
set_option linter.all false
set_option maxRecDepth 100000
set_option maxHeartbeats 4000000
namespace Fx
open PySem PySem.W PySem.Calls PyProof.Rows PySem.HandSPX
open Builtin Builtin.ObjectAttr
/-- a built-in base of errors, as far as errors over it want it -/
structure Root (B newId initId : String) (bmB : List Value) : Prop where
  fb : ExcBaseFacts B newId initId bmB
  kx : KxsFacts B initId
  pass : ∀ self, refuseLoop self "__setattr__" bmB = pure ()
  obj : bmB.contains (.type "object") = true
theorem rootV : Root "ValueError" "ValueError.__new__" "ValueError.__init__" [.type "ValueError", .type "Exception", .type "BaseException", .type "object"] :=
  ⟨F.excBase_ValueError, kxs_ValueError, F.store_ValueError.passes, by decide +kernel⟩
theorem rootL : Root "LookupError" "LookupError.__new__" "LookupError.__init__" [.type "LookupError", .type "Exception", .type "BaseException", .type "object"] :=
  ⟨F.excBase_LookupError, kxs_LookupError, F.store_LookupError.passes, by decide +kernel⟩
theorem rootA : Root "ArithmeticError" "ArithmeticError.__new__" "ArithmeticError.__init__" [.type "ArithmeticError", .type "Exception", .type "BaseException", .type "object"] :=
  ⟨F.excBase_ArithmeticError, kxs_ArithmeticError, F.store_ArithmeticError.passes, by decide +kernel⟩
section
variable {prog : Program} {w : World} {A : Around} {R : Result → Shared → Prop} {g0 : Heap} {gs : Array GenState} {dr : Drawn} {tk0 : Nat} {oz : OsState} {B newId initId : String} {bmB : List Value}
/-- the first attribute of a new error: its dict is made -/
theorem osa (Z : Root B newId initId bmB) {K : Frag} {name : Str} {tk : Tok} {v : Value} {x C W : Addr} {fv : Array Value} {cd : ClassData}
    (X : K.In g0) (hx : g0.get? x = some { cls := .ref C, data := .fields fv }) (hcd : clsIn K C = some cd) (hm : cd.mro = .ref C :: .ref W :: bmB) (hh : cd.hasDict = true) (ha : findIn K (.ref C) name = some none)
    (hq : ∀ g1 tk1 dx, (∀ b o, b ≠ x → g0.get? b = some o → g1.get? b = some o) → g0.objs.size ≤ dx → dx ≠ x → g1.get? x = some { cls := .ref C, dict := some dx, data := .fields fv } →
      g1.Ns1 dx (fun y => if y = name then some v else none) → R (.ok (.ret .none)) ⟨g1, gs, dr, tk1, oz⟩) :
    codeAny (model prog w) A (.call (.builtin "object.__setattr__") ⟨[.ref x, .str name tk, v], []⟩) R ⟨g0, gs, dr, tk0, oz⟩ := by
  have J : PySem.W.InstAt g0 x { cls := .ref C, data := .fields fv } C none := ⟨hx, rfl, rfl, trivial⟩
  have ST := PySem.F.store_object
  have hob : (Value.ref C :: Value.ref W :: bmB).contains (.type "object") = true := by
    rw [List.contains_cons, List.contains_cons, Z.obj, Bool.or_true, Bool.or_true]
  have hxs : x ≠ g0.objs.size := Nat.ne_of_lt (Heap.lt_size hx)
  have hmi : mroIn K C (.type "object") = some true := by
    unfold mroIn
    rw [hcd, Option.bind_some, hm, if_neg (show ¬ (List.isEmpty (Value.ref C :: Value.ref W :: bmB) = true) from Bool.false_ne_true), hob]
  have sub : Looks (model prog w) g0 (isInstance (.ref x) (.type "object")) true := J.type.andThen (looks_mroIn X hmi)
  refine codeAny_call_builtin ST.slot.plain ST.entry (@check_slot (model prog w) _ _ ⟨g0, gs, dr, tk0, oz⟩ "object.__setattr__" "object" "__setattr__" (.ref x) [.str name tk, v] [] _ ST.kind ST.split sub (ST.args (.ref x) (.str name tk) v) ?_)
  have hmr : Looks (model prog w) g0 (mroOf (.ref C)) cd.mro := (looks_clsIn X hcd).andThen .now
  have L3 : Looks (model prog w) g0 (storeTaker? none) none := .now
  have hcls : Looks (model prog w) g0 (classData C) cd := looks_clsIn X hcd
  rw [osa_eq, refuse_eq]
  refine wpAny_bind (wpAny_bind (J.type.at (wpAny_bind (hmr.at ?_))))
  rw [hm, refuseLoop_ref, refuseLoop_ref, Z.pass]
  refine wpAny_pure (wpAny_bind (J.type.at (wpAny_bind ((looks_findIn X ha).at (wpAny_bind (L3.at ?_))))))
  show wpAny _ _ (storeInOwnDict (.ref x) (.ref C) (.str name tk) name v false) _ _ _
  obtain ⟨nm, bs, mro, ns, qn, hd, sn, sb, ab, col, del⟩ := cd
  dsimp only at hh
  subst hh
  unfold storeInOwnDict ownDictForStores
  repeat (first | with_reducible refine store_in_new ?_ ?_ | with_reducible refine wpAny_loadPart_at hx ?_ | with_reducible refine hcls.at ?_ | wp_step)
  · refine ⟨_, #[], _, (Heap.get?_update_ne _ _ _ _ hxs.symm).trans (Heap.get?_push_at rfl rfl), rfl, fun e he => absurd he (by simp), ?_⟩
    intro _
    rfl
  · intro g1 tk1 hn' hs
    have hx₁ : (g0.push { cls := .type "dict", data := .dict #[] }).get? x = some { cls := .ref C, data := .fields fv } := Heap.get?_push_of_some _ hx
    refine hq g1 tk1 g0.objs.size (fun b o hb ho => ?_) (Nat.le_refl _) hxs.symm ?_ hn'
    · exact (hs.2 b (Nat.ne_of_lt (Heap.lt_size ho))).trans ((Heap.get?_update_ne _ _ _ _ hb).trans (Heap.get?_push_of_some _ ho))
    · exact (hs.2 x hxs).trans (Heap.get?_update_self _ hx₁ rfl)
end
/-- the text of an error's __init__: super().__init__(msg), and one attribute or none -/
def iS0 : Scope := { kind := .function, names := [(Str.ofString "self", .local), (Str.ofString "__class__", .free), (Str.ofString "super", .globalImplicit)], isGenerator := false, isCoroutine := false, more := [] }
def iS1 (f : Str) : Scope := { kind := .function, names := [(Str.ofString "self", .local), (f, .local), (Str.ofString "__class__", .free), (Str.ofString "super", .globalImplicit)], isGenerator := false, isCoroutine := false, more := [] }
def iA0 (p1 : Pos) : Arguments := { posonlyargs := [], args := [{ arg := "self", annotation := none, pos := p1 }], vararg := none, kwonlyargs := [], kw_defaults := [], kwarg := none, defaults := [] }
def iA1 (f : Str) (p1 p2 : Pos) : Arguments := { posonlyargs := [], args := [{ arg := "self", annotation := none, pos := p1 }, { arg := f, annotation := none, pos := p2 }], vararg := none, kwonlyargs := [], kw_defaults := [], kwarg := none, defaults := [] }
def iSup (msg : Str) (k : Nat) (q1 q2 q3 q4 q5 q6 : Pos) : Stmt := .Expr (.Call (.Attribute (.Call (.Name "super" q1) [] [] q2) "__init__" q3) [.Constant (.str msg) k q4] [] q5) q6
def iSet (f : Str) (q1 q2 q3 q4 : Pos) : Stmt := .Assign [.Attribute (.Name "self" q1) f q2] (.Name f q3) q4
/-- what the written part says of the class at C, right under the own class at W; its __init__ at fI, which closes over its class in the cell at cc -/
structure ErrT (K : Frag) (mg : Str → Option Value) (newId initId : String) (bmB : List Value) (C W fI : Addr) : Prop where
  cls : ∃ nm q N bs sn sub ab col dd k0 k1 k2 k3 k5, K.lookup C = some (excClassObj nm q C N bs (.ref W :: bmB) true sn sub ab col dd k0 k1 k2 k3 k5 newId)
  sa : findIn K (.ref C) "__setattr__" = some (some (.builtin "object.__setattr__"))
  iC : findIn K (.ref C) "__init__" = some (some (.ref fI))
  tI : typeIn K (.ref fI) = some (.type "function")
  kC : keepIn K (.ref C) = true
  al : alongIn K "__init__" (.ref W :: bmB) = some (some (.builtin initId))
  th : nsIn K cStatics "thirdparty.any" = some none
  su : mg "super" = none
/-- its __init__ with one parameter -/
def Fn1 (prog : Program) (K : Frag) (C fI : Addr) (f : Str) : Prop := ∃ (oc : Value) (od : Option Addr) (qual msg : Str) (kM : Nat) (kV doc pm : Value) (an : Option Addr) (cda cc : Addr) (ct : Value) (osl : Array (Option Value)) (p1 p2 q1 q2 q3 q4 q5 q6 r1 r2 r3 r4 : Pos) (vs : Array Value) (file : Str) (tf : Tok) (ccl cl : Value) (cdd cld : Option Addr) (ccs csl : Array (Option Value)),
    K.lookup fI = some ⟨oc, od, .func (ksFn "__init__" qual (iA1 f p1 p2) [iSup msg kM q1 q2 q3 q4 q5 q6, iSet f r1 r2 r3 r4] (iS1 f) .none kV doc pm an (.ref cda) ct cc), osl⟩ ∧ codeIn K (.ref cda) qual = true ∧
    K.lookup cda = some ⟨ccl, cdd, .fields vs, ccs⟩ ∧ vs[2]? = some (.str file tf) ∧ ((prog.main.file : Str) == file) = true ∧ K.lookup cc = some ⟨cl, cld, .cell (some (.ref C)), csl⟩ ∧ (prog.main.scope.names.lookup ("super" : Str)).isSome = false ∧ (q3.endLine == q5.line) = true
end Fx
set_option Elab.async false
set_option linter.all false
set_option maxRecDepth 100000
set_option maxHeartbeats 4000000
namespace Fx
open PySem PySem.W PySem.Calls PyProof.Rows PySem.HandSPX
open Builtin Builtin.ObjectAttr
section
variable {prog : Program} {w : World} {A : Around} {R : Result → Shared → Prop} {s : Shared} {B newId initId : String} {bmB : List Value} {K : Frag} {mg : Str → Option Value} {base : Heap} {C W fI : Addr}
/-- super().__init__(msg) within the __init__ of a new error at x -/
theorem sup_stmt (Z : Root B newId initId bmB) (T : ErrT K mg newId initId bmB C W fI) (M : L2.Mod K mg base) (kb : ∀ b o, base.get? b = some o → s.heap.get? b = some o) {qual msg : Str} {sc : Scope} {kM : Nat} {kV doc pm ct oc ccl cl : Value} {od an cdd cld : Option Addr} {cda cc L x t0 : Addr} {osl ccs csl : Array (Option Value)} {vs : Array Value} {file : Str} {tf : Tok} {ps : Arguments} {body : List Stmt} {ar : Arg} {m : Str → Option Value} {q1 q2 q3 q4 q5 q6 : Pos} {Q : Flow → Shared → Prop} {E : Value → Shared → Prop}
    (lf : K.lookup fI = some ⟨oc, od, .func (ksFn "__init__" qual ps body sc .none kV doc pm an (.ref cda) ct cc), osl⟩) (hp : (ps.posonlyargs ++ ps.args).head? = some ar) (har : ar.arg = "self")
    (lc : K.lookup cda = some ⟨ccl, cdd, .fields vs, ccs⟩) (hvs : vs[2]? = some (.str file tf)) (hfile : ((prog.main.file : Str) == file) = true) (lcell : K.lookup cc = some ⟨cl, cld, .cell (some (.ref C)), csl⟩) (htop : (prog.main.scope.names.lookup ("super" : Str)).isSome = false)
    (hks : sc.names.lookup ("super" : Str) = some .globalImplicit) (hkc : sc.names.lookup ("__class__" : Str) = some .free) (hka : sc.names.lookup ("self" : Str) = some .local) (hl1 : (q3.endLine == q5.line) = true) (hk : sc.kind = .function) (hi : interactive (ksEnv qual sc L fI (.ref cda) cc) = false)
    (hn : s.heap.Ns L m) (hm : m "self" = some (.ref x)) (hx : s.heap.get? x = some (excO C t0))
    (hq : ∀ h' tk t1, (∀ b o, b ≠ x → s.heap.get? b = some o → h'.get? b = some o) → h'.get? x = some (excO C t1) → Q .next { s with heap := h', toks := tk }) :
    _root_.PySem.wpAt (model prog w) A (.func body (ksEnv qual sc L fI (.ref cda) cc)) (exec (iSup msg kM q1 q2 q3 q4 q5 q6) (ksEnv qual sc L fI (.ref cda) cc)) Q E s := by
  obtain ⟨nm, q, N, bs, sn, sub, ab, col, dd, k0, k1, k2, k3, k5, hC⟩ := T.cls
  have X : K.In s.heap := M.kin.keeps kb
  have hcl : clsIn K C = some { name := nm, bases := bs, mro := .ref C :: .ref W :: bmB, ns := N, qualname := q, hasDict := true, slotNames := sn, subclasses := sub, abstract := ab, collection := col, hasDel := false } := by unfold clsIn; rw [hC] <;> rfl
  obtain ⟨mb, hb1, hb2⟩ := M.blt
  have J : PySem.W.InstAt s.heap x (excO C t0) C none := ⟨hx, rfl, rfl, trivial⟩
  have hCh := X _ _ hC
  have hmC : mroIn K C (.ref C) = some true := by
    unfold mroIn
    rw [hcl, Option.bind_some]
    simp
  have hmB : mroIn K C (.type B) = some true := by
    unfold mroIn
    rw [hcl, Option.bind_some, if_neg (show ¬ (List.isEmpty (Value.ref C :: Value.ref W :: bmB) = true) from Bool.false_ne_true)]
    show some ((Value.ref C :: Value.ref W :: bmB).contains (.type B)) = some true
    rw [List.contains_cons, List.contains_cons, Z.fb.hasB, Bool.or_true, Bool.or_true]
  unfold iSup
  refine ks_wpAt_Expr_any ?_ hi
  refine ks_wpAt_MethodCall (pl := L2.plainOf (.Call (.Name "super" q1) [] [] q2) (ksEnv qual sc L fI (.ref cda) cc)) ?_ ?he
  case he =>
    have e1 := fun ov => L2.mcall_line (o := .Call (.Name "super" q1) [] [] q2) (m := "__init__") (apos := q3) (pos := q5) (env := ksEnv qual sc L fI (.ref cda) cc) (ov := ov) (n := 1) (args := backTo q5 (starEach [.Constant (.str msg) kM q4] (ksEnv qual sc L fI (.ref cda) cc))) (kws := []) (by rfl) hl1
    show (attributeBase _ _ _ _ >>= fun ov => standAt q3.atName >>= fun _ => methodCall _ _ _ _ _ ov _ _ _) = _
    refine congrArg _ (funext fun ov => congrArg _ (funext fun _ => ?_))
    exact e1 ov
  refine ks_wpAt_super_base (env := ksEnv qual sc L fI (.ref cda) cc) hks hkc (by decide) rfl (X _ _ lf) rfl hp rfl (X _ _ lc) rfl hvs hfile htop ?_
  refine ks_loadName_global hk hks (loadGlobal_builtin (env := ksEnv qual sc L fI (.ref cda) cc) (M.glob.keeps kb) T.su (hb1.keeps kb) ((hb2 _ (by decide +kernel)).trans (by first | boot_by_name | rfl | kernel_rfl)) ⟨rfl, ?_⟩)
  refine wpAny_loadName_free hk hkc rfl ⟨_, X _ _ lcell, rfl⟩ ?_
  rw [har]
  refine wpAny_loadName_local hk hka hn hm ?_
  refine ks_wpAny_isType_cls hCh rfl ⟨rfl, ?_⟩
  obtain ⟨hh, g, d, t, os⟩ := s
  refine ks_wpAny_call_super hCh rfl J.at_ J.cls (fun c e => ?_) (looks_mroIn X hmC) (fun h1 e1 kk1 => ?_)
  · cases e
  have X1 : K.In h1 := X.keeps kk1
  have J1 : PySem.W.InstAt h1 x (excO C t0) C none := ⟨kk1 _ _ hx, rfl, rfl, trivial⟩
  have hI : Looks (model prog w) h1 (isInstance (.ref x) (.type B)) true := J1.type.andThen (looks_mroIn X1 hmB)
  have hxC : x ≠ C := ks_ne X J hcl
  refine kxs_getMethod Z.kx e1 (looks_opaque X1 T.th) (l₀ := .ref C :: .ref W :: bmB) ?_ rfl X1 (name := "__init__") ?_ hI hxC (by decide) ?_
  · exact fun A Q E s k q => wpAny_bind ((looks_clsIn X1 hcl) A _ E s k (wpAny_pure q))
  · have e0 : ((Value.ref C :: Value.ref W :: bmB).dropWhile (· != .ref C)).drop 1 = .ref W :: bmB := by simp [List.dropWhile_cons]
    rw [e0]
    exact T.al
  refine kxs_callWith (i := initId) (x := x) (by rfl) ?_
  show wpAny _ _ (evalArgs _ true ((false, eval (.Constant (.str msg) kM q4) (ksEnv qual sc L fI (.ref cda) cc)) :: []) []) _ _ _
  refine evalArgs_plain (spliced_cons (wpAny_Constant_str (spliced_nil ⟨Heap.get?_push_at rfl rfl, ?_⟩)))
  have up2 : ∀ b o, h1.get? b = some o → (h1.push (kxs_mw initId x)).get? b = some o := fun b o e => Heap.get?_push_of_some _ e
  refine wpAny_call (codeAny_of_tree ?_)
  show wpAny _ A.in1 (callAny (.ref _) ⟨[.str msg _], []⟩) _ _ _
  simp only [callAny]
  refine wpAny_bind (wpAny_load (Heap.get?_push_at rfl rfl) ?_)
  simp only [kxs_mw, show (Value.type "method-wrapper" == Value.type "method" || Value.type "method-wrapper" == Value.type "builtin_function_or_method" || Value.type "method-wrapper" == Value.type "method-wrapper") = true by decide, if_true]
  refine KFB.if_so (by decide) ?_
  refine wpAny_bind (check_bound_init Z.fb.toExcCallFacts (up2 _ _ (kk1 _ _ hCh)) (up2 _ _ (kk1 _ _ hx)) rfl ?_)
  refine wpAny_bind (wpAny_pure (wpAny_pure ?_))
  refine ⟨plainId_quiet Z.fb.init.plain _, codeAny_builtin Z.fb.initEntry ?_⟩
  refine exc_init_tree (cls := .ref C) (t0 := t0) (dv := none) (c2 := .none) (c3 := .none) (b4 := .bool false) (up2 _ _ (kk1 _ _ hx)) (by show 1 ≤ sizeLine; rw [sizeLine_eq]; omega) fun h2 k2' he' _ => ?_
  exact hq h2 _ _ (fun b o hb e => k2' b o hb (up2 _ _ (kk1 _ _ e))) he'
end
end Fx
set_option Elab.async false
set_option linter.all false
set_option maxRecDepth 100000
set_option maxHeartbeats 4000000
namespace Fx
open PySem PySem.W PySem.Calls PyProof.Rows PySem.HandSPX
open Builtin Builtin.ObjectAttr
/-- an error made: at x, its dict at dx with the one attribute -/
abbrev excD (C t : Addr) (dx : Option Addr) : Obj := { cls := .ref C, dict := dx, data := .fields #[.ref t, .none, .none, .none, .bool false, .none] }
theorem cellS1 (f : Str) : ∀ y ∈ (iS1 f).names, y.2 ≠ .cell := by
  intro y hy
  simp only [iS1, List.mem_cons, List.not_mem_nil, or_false] at hy
  rcases hy with rfl | rfl | rfl | rfl <;> exact fun z => nomatch z
theorem locS1 {f : Str} (hf : f = "given" ∨ f = "index") (a b : Value) : ∀ y ∈ [((Str.ofString "self" : Str), a), (f, b)], (iS1 f).names.lookup y.1 = some .local := by
  intro y hy
  simp only [List.mem_cons, List.not_mem_nil, or_false] at hy
  rcases hf with rfl | rfl <;> rcases hy with rfl | rfl <;> rfl
theorem cellS0 : ∀ y ∈ iS0.names, y.2 ≠ .cell := by
  intro y hy
  simp only [iS0, List.mem_cons, List.not_mem_nil, or_false] at hy
  rcases hy with rfl | rfl | rfl <;> exact fun z => nomatch z
theorem locS0 (a : Value) : ∀ y ∈ [((Str.ofString "self" : Str), a)], iS0.names.lookup y.1 = some .local := by
  intro y hy
  simp only [List.mem_cons, List.not_mem_nil, or_false] at hy
  subst hy
  rfl
section
variable {prog : Program} {w : World} {A : Around} {R : Result → Shared → Prop} {s : Shared} {B newId initId : String} {bmB : List Value} {K : Frag} {mg : Str → Option Value} {base : Heap} {C W fI : Addr}
theorem ldK {M : Model} {E : Value → Shared → Prop} {nm : Str} {sc : Scope} {L a cc : Addr} {cd : Value} {m : Str → Option Value} {y : Str} {pos : Pos} {v : Value} {Q : Value → Shared → Prop} (hn : s.heap.Ns L m) (hv : m y = some v) (h : Q v s)
    (hk : sc.kind = .function := by rfl) (hl : (ksEnv nm sc L a cd cc).kindOf y = some .local := by rfl) (hd : (y == ("__debug__" : Str)) = false := by decide) : wpAny M A (PySem.eval (.Name y pos) (ksEnv nm sc L a cd cc)) Q E s :=
  wpAny_Name (wpAny_loadName_local hk hl hn hv h) hd
theorem init1 (Z : Root B newId initId bmB) (T : ErrT K mg newId initId bmB C W fI) (M : L2.Mod K mg base) (kb : ∀ b o, base.get? b = some o → s.heap.get? b = some o) {f : Str} (hf : f = "given" ∨ f = "index") (noF : findIn K (.ref C) f = some none)
    (N : Fn1 prog K C fI f) {x t0 : Addr} {v : Value} {args : Args} (hb : args = ⟨[.ref x, v], []⟩ ∨ args = ⟨[.ref x], [(f, v)]⟩) (hx : s.heap.get? x = some (excO C t0)) (hnx : base.get? x = none) (hroom : A.depth < recursionLimit)
    (hq : ∀ h' tk dx t1, (∀ b o, b ≠ x → s.heap.get? b = some o → h'.get? b = some o) → h'.get? x = some (excD C t1 (some dx)) → s.heap.objs.size ≤ dx → dx ≠ x → h'.Ns1 dx (fun y => if y = f then some v else none) → R (.ok (.ret .none)) { s with heap := h', toks := tk }) :
    codeAny (model prog w) A (.call (.ref fI) args) R s := by
  obtain ⟨oc, od, qual, msg, kM, kV, doc, pm, an, cda, cc, ct, osl, p1, p2, q1, q2, q3, q4, q5, q6, r1, r2, r3, r4, vs, file, tf, ccl, cl, cdd, cld, ccs, csl, lf, lcd, lc, hvs, hfile, lcell, htop, hl1⟩ := N
  obtain ⟨nm, q, N, bs, sn, sub, ab, col, dd, k0, k1, k2, k3, k5, hC⟩ := T.cls
  have X : K.In s.heap := M.kin.keeps kb
  have hcl : clsIn K C = some { name := nm, bases := bs, mro := .ref C :: .ref W :: bmB, ns := N, qualname := q, hasDict := true, slotNames := sn, subclasses := sub, abstract := ab, collection := col, hasDel := false } := by unfold clsIn; rw [hC] <;> rfl
  rcases hf with rfl | rfl
  all_goals
    refine ks_codeAny_call_defAt (fd := ksFn "__init__" qual (iA1 _ p1 p2) [iSup msg kM q1 q2 q3 q4 q5 q6, iSet _ r1 r2 r3 r4] (iS1 _) .none kV doc pm an (.ref cda) ct cc) (body := [iSup msg kM q1 q2 q3 q4 q5 q6, iSet _ r1 r2 r3 r4]) (binds := [("self", .ref x), (_, v)]) hroom (X _ _ lf) rfl (M.nolimit.keeps kb) (codeRec_of X lcd) rfl (by rcases hb with rfl | rfl <;> exact .of_eq rfl) (cellS1 _) (locS1 (by first | exact .inl rfl | exact .inr rfl) _ _) (fun h₁ hns hk₁ => ?_) rfl rfl rfl
    refine ks_wpAt_execs_cons (sup_stmt Z T M (fun b o e => hk₁ b o (kb b o e)) lf rfl rfl lc hvs hfile lcell htop rfl rfl rfl hl1 rfl rfl hns (m := fun y => [((PySem.Str.ofString "self" : Str), Value.ref x), (_, v)].reverse.lookup y) (by rfl) (hk₁ _ _ hx) fun h₂ tk₂ t2 k₂ e₂ => ?_)
    refine wpAt_of_wpAny ?_
    have xL : s.heap.objs.size ≠ x := Nat.ne_of_gt (Heap.lt_size hx)
    have hns2 := hns
    obtain ⟨oL, es, ep, hL, rL⟩ := hns2
    have hns' : h₂.Ns s.heap.objs.size (fun y => [((PySem.Str.ofString "self" : Str), Value.ref x), (_, v)].reverse.lookup y) := ⟨oL, es, ep, k₂ _ _ xL hL, rL⟩
    have X₂ : K.In h₂ := fun b o e => k₂ b o (fun z => by
      have y := M.kin b o e
      rw [z, hnx] at y
      cases y) (hk₁ b o (X b o e))
    refine wpAny_execs_cons (plainObj_wpAny_Assign_Attribute ?_)
    refine ldK (v := v) hns' (by rfl) (ldK (v := .ref x) hns' (by rfl) ?_)
    refine set_plain X₂ (ox := excO C t2) (od := none) ⟨e₂, rfl, rfl, trivial⟩ T.sa ?_
    refine osa Z X₂ e₂ hcl rfl rfl noF fun h₃ tk₃ dx k₃ dn dne hx₃ hn₃ => ?_
    show wpAny _ _ (execs _ _) _ _ _
    refine wpAny_execs_nil (hq h₃ tk₃ dx t2 (fun b o hb e => k₃ b o hb (k₂ b o hb (hk₁ b o e))) hx₃ ?_ dne hn₃)
    exact Nat.le_trans (Nat.le_of_lt hns'.lt) dn
end
end Fx
set_option Elab.async false
set_option linter.all false
set_option maxRecDepth 100000
set_option maxHeartbeats 4000000
namespace Fx
open PySem PySem.W PySem.Calls PyProof.Rows PySem.HandSPX
open Builtin Builtin.ObjectAttr
/-! a class of errors called, with any positional and keyword arguments -/
section
variable {M : Model} {A : Around} {E : Value → Shared → Prop} {g0 : Heap} {gs : Array GenState} {dr : Drawn} {tk0 : Nat} {oz : OsState}
variable {nm qn : Str} {C N : Addr} {bs bm bmB : List Value} {hdct : Bool} {sn : List Str} {sub : List Value} {ab : Bool} {col : Option Bool} {dd : Option Addr} {k0 k1 k2 k3 k5 : Option Value} {B newId initId : String}
theorem kw_check (F : ExcBaseFacts B newId initId bmB) (hT : ∀ y : String, bm.contains (.type y) = bmB.contains (.type y)) {rest : List Value} {kw : List (Str × Value)} {Q : Unit → Shared → Prop}
    (hC : g0.get? C = some (excClassObj nm qn C N bs bm hdct sn sub ab col dd k0 k1 k2 k3 k5 newId)) (hq : Q () ⟨g0, gs, dr, tk0, oz⟩) : wpAny M A (checkBuiltinCall newId ⟨.ref C :: rest, kw⟩) Q E ⟨g0, gs, dr, tk0, oz⟩ := by
  have hB : (Value.ref C :: bm).contains (.type B) = true := by
    rw [List.contains_cons, hT, F.hasB, Bool.or_true]
  have hns := F.noStar
  simp only [checkBuiltinCall, F.newKind, F.newSplit, F.newRow]
  repeat (first | refine wpAny_loadPart_at hC ?_ | (refine wpAny_isSubtype_exc hC ?_; rw [hB]) | refine wpAny_staticBase_exc hC ?_ | refine wpAny_madeBy_exc hC ?_ | simp only [bne_self_eq_false, Bool.false_eq_true, if_false] | wp_step)
  first
    | exact hq
    | skip
end
section
variable {prog : Program} {w : World} {A : Around} {E : Value → Shared → Prop} {R : Result → Shared → Prop} {g0 : Heap} {gs : Array GenState} {dr : Drawn} {tk0 : Nat} {oz : OsState}
variable {nm qn : Str} {C N : Addr} {bs bm bmB : List Value} {hdct : Bool} {sn : List Str} {sub : List Value} {ab : Bool} {col : Option Bool} {dd : Option Addr} {k0 k1 k2 k3 k5 : Option Value} {B newId initId : String}
theorem kw_new (F : ExcBaseFacts B newId initId bmB) (hT : ∀ y : String, bm.contains (.type y) = bmB.contains (.type y)) {rest : List Value} {kw : List (Str × Value)}
    (hC : g0.get? C = some (excClassObj nm qn C N bs bm hdct sn sub ab col dd k0 k1 k2 k3 k5 newId))
    (hq : R (.ok (.ret (.ref (g0.objs.size + 1)))) ⟨(g0.push (kdv_tup rest)).push (excO C g0.objs.size), gs, dr, tk0, oz⟩) (hz : rest.length ≤ sizeLine) :
    codeAny (model prog w) A (.builtin newId ⟨.ref C :: rest, kw⟩) R ⟨g0, gs, dr, tk0, oz⟩ := by
  have he := F.ends
  have hB : (Value.ref C :: bm).contains (.type B) = true := by
    rw [List.contains_cons, hT, F.hasB, Bool.or_true]
  have hA : (Value.ref C :: bm).contains (.type "AttributeError") = false := by
    rw [List.contains_cons, hT, F.noAttr]
    rfl
  have hN : (Value.ref C :: bm).contains (.type "NameError") = false := by
    rw [List.contains_cons, hT, F.noName]
    rfl
  refine codeAny_builtinAt F.entry ?_
  unfold Builtin.«BaseException.__new__»
  refine _root_.PySem.wpAt_bind ?_
  show _root_.PySem.wpAt _ _ _ (stack >>= _) _ _ _
  refine _root_.PySem.wpAt_bind (_root_.PySem.wpAt_stack fun p below => _root_.PySem.wpAt_of_wpAny ?_)
  wp_walk
  refine _root_.PySem.wpAt_of_wpAny ?_
  rw [F.owner]
  repeat (first | with_reducible refine wpAny_madeHere_exc F.canon hC ?_ | with_reducible refine wpAny_loadPart_at hC ?_ | (with_reducible refine wpAny_isSubtype_exc hC ?_; first | rw [hB] | rw [hA] | rw [hN]) | wp_step)
  show R _ _
  rw [Heap.size_push]
  exact hq
theorem kw_type (F : ExcBaseFacts B newId initId bmB) (hT : ∀ y : String, bm.contains (.type y) = bmB.contains (.type y)) {rest : List Value} {kw : List (Str × Value)} {fI : Addr} {Q : Fin → Shared → Prop}
    (hC : g0.get? C = some (excClassObj nm qn C N bs bm hdct sn sub ab col dd k0 k1 k2 k3 k5 newId))
    (hi : Looks (model prog w) g0 (typeLookup (.ref C) "__init__") (some (.ref fI))) (hb : ∀ self, Looks (model prog w) g0 (bindSpecial (.ref fI) self) (.ref fI, [self])) (hz : rest.length ≤ sizeLine)
    (hq : codeAny (model prog w) A (.call (.ref fI) ⟨.ref (g0.objs.size + 1) :: rest, kw⟩)
      (fun r s' => match r with | .ok (.ret v) => v = .none ∧ Q (.done (.ret (.ref (g0.objs.size + 1)))) s' | .ok _ => False | .error e => E e s')
      ⟨(g0.push (kdv_tup rest)).push (excO C g0.objs.size), gs, dr, tk0, oz⟩) :
    wpAny (model prog w) A (Builtin.«type.__call__» ⟨.ref C :: rest, kw⟩) Q E ⟨g0, gs, dr, tk0, oz⟩ := by
  repeat (first | with_reducible refine wpAny_loadPart_at hC ?_ | with_reducible refine wpAny_madeBy_exc hC ?_ | wp_step)
  refine codeAny_call_builtin_code (Code.quiet_builtin _ F.quiet) (kw_check F hT hC ?_)
  refine kw_new F hT hC ?_ hz
  show wpAny _ _ _ _ _ _
  have k : ∀ b o, g0.get? b = some o → ((g0.push (kdv_tup rest)).push (excO C g0.objs.size)).get? b = some o := fun b o e => Heap.get?_push_of_some _ (Heap.get?_push_of_some _ e)
  have hC₁ := k _ _ hC
  have hget : ((g0.push (kdv_tup rest)).push (excO C g0.objs.size)).get? (g0.objs.size + 1) = some (excO C g0.objs.size) := by heap_get
  have hCC : (Value.ref C :: bm).contains (.ref C) = true := by simp
  have i1 := hi.keeps k
  have b1 := (hb (.ref (g0.objs.size + 1))).keeps k
  unfold isInstance
  repeat (first | with_reducible refine wpAny_loadPart_at hget ?_ | (with_reducible refine wpAny_isSubtype_exc hC₁ ?_; rw [hCC]) | wp_step)
  show wpAny _ _ (typeLookup (.ref C) _) _ _ _
  refine i1.at ?_
  refine wpAny_holding (wpAny_bind (b1.at ?_))
  refine wpAny_bind (wpAny_call (codeAny_mono hq fun r s' z => ?_))
  rcases r with e | (v | _ | _ | _) <;> first | exact z | exact z.elim | skip
  obtain ⟨rfl, z⟩ := z
  first
    | exact wpAny_pure (wpAny_pure z)
    | (wp_walk; exact z)
theorem kw_call (F : ExcBaseFacts B newId initId bmB) (hT : ∀ y : String, bm.contains (.type y) = bmB.contains (.type y)) {rest : List Value} {kw : List (Str × Value)} {fI : Addr}
    (hC : g0.get? C = some (excClassObj nm qn C N bs bm hdct sn sub ab col dd k0 k1 k2 k3 k5 newId))
    (hi : Looks (model prog w) g0 (typeLookup (.ref C) "__init__") (some (.ref fI))) (hb : ∀ self, Looks (model prog w) g0 (bindSpecial (.ref fI) self) (.ref fI, [self])) (hz : rest.length ≤ sizeLine)
    (hq : codeAny (model prog w) (A.under (.builtin "type.__call__" ⟨.ref C :: rest, kw⟩)) (.call (.ref fI) ⟨.ref (g0.objs.size + 1) :: rest, kw⟩) (InitBack (g0.objs.size + 1) R)
      ⟨(g0.push (kdv_tup rest)).push (excO C g0.objs.size), gs, dr, tk0, oz⟩) :
    codeAny (model prog w) A (.call (.ref C) ⟨rest, kw⟩) R ⟨g0, gs, dr, tk0, oz⟩ := by
  have f1 := tc_lookup
  have f2 := tc_bind (.ref C)
  have hTy : (⟨g0, gs, dr, tk0, oz⟩ : Shared).TypeIs (.ref C) "type" := ⟨_, hC, rfl⟩
  refine codeAny_of_tree ?_
  show wpAny _ _ (callAny (.ref C) _) _ _ _
  repeat (any_goals (first | assumption | with_reducible refine wpAny_loadPart_at hC ?_ | wp_step))
  refine ⟨rfl, ?_⟩
  refine codeAny_call_builtin_at (Code.quiet_builtin _ (by decide +kernel)) entry_typeCall (wpAny_check_type_call_sub hC (kw_type F hT hC hi hb hz ?_))
  refine codeAny_mono hq fun r s' z => ?_
  rcases r with e | (v | _ | _ | _) <;> exact z
end
end Fx
set_option Elab.async false
set_option linter.all false
set_option maxRecDepth 100000
set_option maxHeartbeats 4000000
namespace Fx
open PySem L2
open PySem.W (Frag)
/-- what the walk asks of a class of errors with one attribute f -/
structure Err1 (prog : Program) (K : Frag) (mg : Str → Option Value) (newId initId : String) (bmB : List Value) (C W fI : Addr) (f : Str) : Prop where
  t : ErrT K mg newId initId bmB C W fI
  n : Fn1 prog K C fI f
  no : PySem.W.findIn K (.ref C) f = some none
  ff : f = "given" ∨ f = "index"
section
variable {X : Cx} {pins : List (Addr × Obj)} {σ : St} {H : Hp} {s : Shared} {B newId initId : String} {bmB : List Value} {C W fI : Addr} {f : Str} {k : Nat}
theorem hT_of (Z : Root B newId initId bmB) (W : Addr) : ∀ y : String, (Value.ref W :: bmB).contains (.type y) = bmB.contains (.type y) := fun y => by
  rw [List.contains_cons]
  rfl
/-- what stands new: the error at a, its dict at d -/
theorem err_laid (I : Inv X pins σ H s) {h' : Heap} {a d t1 : Addr} {mA : Str → Option Value} {fs : List (Str × V)} {tk : Nat} (k : ∀ b o, s.heap.get? b = some o → h'.get? b = some o) (ha : s.heap.objs.size ≤ a) (hd : s.heap.objs.size ≤ d) (ne : d ≠ a)
    (ea : h'.get? a = some (excD C t1 (some d))) (ed : h'.Ns1 d mA) (rel : ∀ g, RelO (fs.lookup g) (mA g)) :
    H a = none ∧ H d = none ∧ Inv X pins σ (upd (upd H d (exd d fs)) a (exo a C (some d))) { s with heap := h', toks := tk } := by
  have na : H a = none := I.hok.fresh ha
  have nd : H d = none := I.hok.fresh hd
  have la : ∀ {b : Addr} {o : Obj}, s.heap.get? b = some o → b ≠ a := fun {b o} q => Nat.ne_of_lt (Nat.lt_of_lt_of_le (Heap.lt_size q) ha)
  have ld : ∀ {b : Addr} {o : Obj}, s.heap.get? b = some o → b ≠ d := fun {b o} q => Nat.ne_of_lt (Nat.lt_of_lt_of_le (Heap.lt_size q) hd)
  have up : ∀ {b : Addr}, b ≠ a → b ≠ d → (upd (upd H d (exd d fs)) a (exo a C (some d))) b = H b := fun {b} h1 h2 => by
    rw [upd_ne h1, upd_ne h2]
  have us : ∀ {b : Addr} {o : HO}, H b = some o → (upd (upd H d (exd d fs)) a (exo a C (some d))) b = some o := fun {b o} q => by
    rw [up (ne_of_none q na) (ne_of_none q nd)]
    exact q
  refine ⟨na, nd, I.un (t' := tk) ⟨fun b o q _ _ _ => k b o q, fun b o q _ _ _ => ⟨o.slots, k b o q⟩, fun b o q n _ => ?_, fun b o q _ => ⟨o, k b o q⟩, fun b xs q => us q, fun b o v q => us q, fun b ps q => ⟨#[], by rw [us q]; simp⟩⟩ fun b o q => ?_⟩
  · rw [up (la q) (ld q)]
    exact n
  · by_cases h1 : b = a
    · subst h1
      rw [upd_same] at q
      cases q
      exact exo_ok ea
    · rw [upd_ne h1] at q
      by_cases h2 : b = d
      · subst h2
        rw [upd_same] at q
        cases q
        exact exd_ok ed rel
      · rw [upd_ne h2] at q
        exact (I.hok b o q).stay (fun c v _ z => k c v z) (fun c z => us z) fun c xs z => us z
theorem run_err (Z : Root B newId initId bmB) (T : Err1 X.prog X.K X.mg newId initId bmB C W fI f) (hr : Room (k + 1) X.A) (I : Inv X pins σ H s) {y : V} {u : Value} (ry : RelV y u) {pos : List Value} {kw : List (Str × Value)}
    (ha : (pos = [u] ∧ kw = []) ∨ (pos = [] ∧ kw = [(f, u)])) {Q : VK} (h : ∀ a d, H a = none → H d = none → d ≠ a → Q (.ref a) (upd (upd H d (exd d [(f, y)])) a (exo a C (some d)))) :
    wpAny (model X.prog X.w) X.A (call (.ref C) pos kw) (EP X pins σ Q) X.xe s := by
  obtain ⟨nm, q, N, bs, sn, sub, ab, col, dd, k0, k1, k2, k3, k5, hC⟩ := T.t.cls
  obtain ⟨hp, g, dr, tk, os⟩ := s
  have kk : ∀ b o, hp.get? b = some o → ((hp.push (PySem.W.kdv_tup pos)).push (PySem.HandSPX.excO C hp.objs.size)).get? b = some o := fun b o e => Heap.get?_push_of_some _ (Heap.get?_push_of_some _ e)
  have hget : ((hp.push (PySem.W.kdv_tup pos)).push (PySem.HandSPX.excO C hp.objs.size)).get? (hp.objs.size + 1) = some (PySem.HandSPX.excO C hp.objs.size) := by heap_get
  have hz : pos.length ≤ sizeLine := by
    rw [sizeLine_eq]
    rcases ha with ⟨rfl, _⟩ | ⟨rfl, _⟩
    · show 1 ≤ 16777216
      decide
    · show 0 ≤ 16777216
      decide
  have nb : X.base.get? (hp.objs.size + 1) = none := by
    cases e : X.base.get? (hp.objs.size + 1) with
    | none => rfl
    | some o =>
      have z : hp.get? (hp.objs.size + 1) = some o := I.bk _ _ e
      exact absurd (Nat.lt_of_succ_lt (Heap.lt_size z)) (Nat.lt_irrefl _)
  have args : (Args.mk (Value.ref (hp.objs.size + 1) :: pos) kw) = ⟨[.ref (hp.objs.size + 1), u], []⟩ ∨ (Args.mk (Value.ref (hp.objs.size + 1) :: pos) kw) = ⟨[.ref (hp.objs.size + 1)], [(f, u)]⟩ := by
    rcases ha with ⟨rfl, rfl⟩ | ⟨rfl, rfl⟩
    · exact .inl rfl
    · exact .inr rfl
  refine wpAny_call (kw_call Z.fb (hT_of Z W) (I.kIn _ _ hC) (PySem.W.looks_findIn I.kIn T.t.iC) (fun self => PySem.W.bind_fn I.kIn self T.t.tI) hz ?_)
  refine init1 (s := ⟨(hp.push (PySem.W.kdv_tup pos)).push (PySem.HandSPX.excO C hp.objs.size), g, dr, tk, os⟩) Z T.t I.ok.mod (fun b o e => kk b o (I.bk b o e)) T.ff T.no T.n args hget nb ?_ fun h' tk' dx t1 k1 e1 dn dne hn => ?_
  · rw [make_depth]
    have := hr.dp
    omega
  · have old : ∀ b o, hp.get? b = some o → h'.get? b = some o := fun b o e => k1 b o (Nat.ne_of_lt (Nat.lt_succ_of_lt (Heap.lt_size e))) (kk b o e)
    have sz : hp.objs.size ≤ dx := by
      have z : ((hp.push (PySem.W.kdv_tup pos)).push (PySem.HandSPX.excO C hp.objs.size)).objs.size ≤ dx := dn
      rw [Heap.size_push, Heap.size_push] at z
      omega
    obtain ⟨na, nd, J⟩ := err_laid (fs := [(f, y)]) (tk := tk') I old (Nat.le_succ _) sz dne e1 hn (relO_put (fs := []) (mA := fun _ => none) ry fun g => True.intro)
    exact ⟨rfl, .ref (hp.objs.size + 1), _, J, rfl, h _ _ na nd dne⟩
end
end Fx
set_option Elab.async false
set_option linter.all false
set_option maxRecDepth 100000
set_option maxHeartbeats 4000000
namespace Fx
open PySem L2
open PySem.W (Frag)
section
variable {X : Cx} {pins : List (Addr × Obj)} {σ : St} {H : Hp} {s : Shared} {B newId initId : String} {bmB : List Value} {C W fI : Addr} {f : Str} {k : Nat} {x : Str} {p pos kpos : Pos} {e : Expr} {te : TE}
/-- C(e), C(f=e): a new error at a, its dict at d -/
def tErr (C : Addr) (f : Str) (te : TE) : TE := fun σ H Q => te σ H fun y H1 => ∀ a d, H1 a = none → H1 d = none → d ≠ a → Q (.ref a) (upd (upd H1 d (exd d [(f, y)])) a (exo a C (some d)))
theorem pe_err (Z : Root B newId initId bmB) (T : Err1 X.prog X.K X.mg newId initId bmB C W fI f) (hr : Room (k + 1) X.A) (gC : X.mg x = some (.ref C)) (hg : Gl X x) (he : PE X e te) (hs : starEach [e] X.env = (false, eval e X.env) :: starEach [] X.env := by rfl)
    (hdb : (x == ("__debug__" : Str)) = false := by decide) : PE X (.Call (.Name x p) [e] [] pos) (tErr C f te) := by
  refine ⟨fun pins s σ H Q I h => ?_⟩
  refine wpAny_Call_Name_kw (ld_glob I hg gC ?_ hdb)
  refine PySem.W.callWith_K (h₀ := X.base) I.ok.mod.kin T.t.kC ?_ hs (by rfl)
  rw [hs]
  show wpAny _ _ (spliced ((false, eval e X.env) :: backTo pos (starEach [] X.env))) _ _ s
  refine Calls.spliced_cons (thn (he.run pins s σ H _ I h) fun u s1 ⟨y, H1, I1, r1, q1⟩ => ?_)
  refine Calls.spliced_nil ⟨I1.kIn, ?_⟩
  exact run_err Z T hr I1 r1 (.inl ⟨rfl, rfl⟩) q1
theorem pe_errK (Z : Root B newId initId bmB) (T : Err1 X.prog X.K X.mg newId initId bmB C W fI f) (hr : Room (k + 1) X.A) (gC : X.mg x = some (.ref C)) (hg : Gl X x) (he : PE X e te)
    (hdb : (x == ("__debug__" : Str)) = false := by decide) : PE X (.Call (.Name x p) [] [⟨some f, e, kpos⟩] pos) (tErr C f te) := by
  refine ⟨fun pins s σ H Q I h => ?_⟩
  refine wpAny_Call_Name_kw (ld_glob I hg gC ?_ hdb)
  refine PySem.W.callWith_KW0 (h₀ := X.base) I.ok.mod.kin T.t.kC (by rfl) ?_ (by rfl)
  have hk : PK X [⟨some f, e, kpos⟩] (tCons te tNil) := pk_cons he pk_nil
  refine thn (hk.run pos pins s σ H (fun vs H1 => match vs with | [y] => ∀ a d, H1 a = none → H1 d = none → d ≠ a → Q (.ref a) (upd (upd H1 d (exd d [(f, y)])) a (exo a C (some d))) | _ => False) I h) fun us s1 ⟨vs, H1, I1, r1, q1⟩ => ⟨I1.kIn, ?_⟩
  cases r1 with
  | nil => exact q1.elim
  | cons ry rn =>
    cases rn with
    | nil => exact run_err Z T hr I1 ry (.inr ⟨rfl, rfl⟩) q1
    | cons r2 rn => exact q1.elim
end
/-- an error stands at a -/
def IsE (H : Hp) (a C : Addr) : Prop := (∃ dd fs, H a = some (exo a C (some dd)) ∧ H dd = some (exd dd fs)) ∨ H a = some (exo a C none) ∨ H a = some (ExO (.ref C) a)
/-- what the class says, so that isinstance asks its errors rightly -/
structure IsC (K : Frag) (C : Addr) : Prop where
  cl : (PySem.W.clsIn K C).isSome = true
  ga : PySem.W.findIn K (.ref C) "__getattribute__" = some (some (.builtin "BaseException.__getattribute__"))
  gg : PySem.W.findIn K (.ref C) "__getattr__" = some none
  ex : PySem.W.subIn K (.ref C) (.type "BaseException") = some true
  ha : PySem.W.findIn K (.ref C) "__class__" = some (some (.builtin "object.__class__"))
  hn : PySem.W.specialIn K (.builtin "object.__class__") "__get__" = some (some (.builtin "getset_descriptor.__get__"))
  ht : PySem.W.takesIn K (.builtin "object.__class__") = some true
  hm : PySem.W.mroIn K C (.type "object") = some true
section
variable {X : Cx} {pins : List (Addr × Obj)} {σ : St} {H : Hp} {s : Shared} {a C : Addr}
theorem isE_inst (I : Inv X pins σ H s) (h : IsE H a C) : ∃ ox od, PySem.W.InstAt s.heap a ox C od := by
  rcases h with ⟨dd, fs, h1, h2⟩ | h1 | h1
  · obtain ⟨t1, e1⟩ := exo_at I.hok h1
    obtain ⟨mA, ⟨od, es, ep, e2, _⟩, _⟩ := exd_at I.hok h2
    exact ⟨_, some od, e1, rfl, rfl, e2⟩
  · obtain ⟨t1, e1⟩ := exo_at I.hok h1
    exact ⟨_, none, e1, rfl, rfl, trivial⟩
  · have z : ObjOk X.prog X.w H s.heap a (ExO (.ref C) a) := I.hok a _ h1
    obtain ⟨⟨oe, vs, ho, hz, hd, _⟩, _, _⟩ := z
    obtain ⟨oc, od, oda, osl⟩ := oe
    obtain ⟨z1, z2⟩ := hz
    dsimp only at z1 z2 hd
    subst z1 z2 hd
    exact ⟨_, none, ho, rfl, rfl, trivial⟩
/-- isinstance(e, c), e an error -/
def rIsE (K : Frag) : List V → Hp → VK → Prop := fun xs H Q => ∃ (a C : Addr) (c : V) (u : Value) (b : Bool), xs = [.ref a, c] ∧ ClsV c u ∧ IsE H a C ∧ IsC K C ∧ PySem.W.kitOne K (.ref C) u = some b ∧ Q (.bl b) H
theorem call_isE {X : Cx} : CallR X (.builtin "isinstance") (rIsE X.K) := by
  intro pins s σ H xs us Q I r h
  obtain ⟨a, C, c, u, b, rfl, kc, ie, T, e, q⟩ := h
  obtain ⟨u1, u2, rfl, r1, r2⟩ := vals2 r
  have e2 := kc.eq r2
  subst e2
  cases (show u1 = Value.ref a from r1)
  obtain ⟨ox, od, J⟩ := isE_inst I ie
  exact PySem.W.kia_one (PySem.W.kitx_exc (gt := none) T.cl T.ga T.gg T.ex T.ha T.hn T.ht T.hm) I.kIn J e (fun z => nomatch z) fun tk => ⟨.bl b, H, I.tok tk, rfl, q⟩
/-- e.f, e an error with a dict -/
def tEf (K : Frag) (f : Str) (te : TE) : TE := fun σ H Q => te σ H fun x H1 => ∃ (a C dd : Addr) (fs : List (Str × V)) (v : V), x = .ref a ∧ H1 a = some (exo a C (some dd)) ∧ H1 dd = some (exd dd fs) ∧ fs.lookup f = some v ∧ XfC K C ∧ PySem.W.findIn K (.ref C) f = some none ∧ Q v H1
theorem pe_ef {X : Cx} {e : Expr} {te : TE} {pos : Pos} {n : Str} (he : PE X e te) (hb : attributeBase e n X.env (eval e X.env) = eval e X.env := by rfl) : PE X (.Attribute e n pos) (tEf X.K n te) := by
  refine ⟨fun pins s σ H Q I h => ?_⟩
  refine attr_of hb (thn (he.run pins s σ H _ I h) fun u s1 hh => ?_)
  obtain ⟨x, H1, I1, rx, a, C, dd, fs, v, ex, ea, ed, l, T, hno, q⟩ := hh
  subst ex
  obtain rfl : u = Value.ref a := rx
  obtain ⟨t1, e1⟩ := exo_at I1.hok ea
  obtain ⟨mA, hns, hr⟩ := exd_at I1.hok ed
  obtain ⟨od, ho, hl⟩ := lookIn_ns hns
  obtain ⟨u, hu, ru⟩ := RelO.some_of (v := v) (o := mA n) (by rw [← l]; exact hr n)
  have J : PySem.W.InstAt s1.heap a _ C (some od) := ⟨e1, rfl, rfl, ho⟩
  exact HandSPX.exc_get I1.kIn J T.ga T.gg T.exC (PySem.W.findObj_own T.hdC hno rfl (by rw [hl, hu])) (handed_of ru) ⟨v, H1, I1.tok _, ru, q⟩
end
end Fx
set_option Elab.async false
set_option linter.all false
set_option maxRecDepth 100000
set_option maxHeartbeats 4000000
namespace Fx
open PySem PySem.W PySem.Calls PyProof.Rows PySem.HandSPX
open Builtin Builtin.ObjectAttr
/-- an __init__ without parameters -/
def Fn0 (prog : Program) (K : Frag) (C fI : Addr) : Prop := ∃ (oc : Value) (od : Option Addr) (qual msg : Str) (kM : Nat) (kV doc pm : Value) (an : Option Addr) (cda cc : Addr) (ct : Value) (osl : Array (Option Value)) (p1 q1 q2 q3 q4 q5 q6 : Pos) (vs : Array Value) (file : Str) (tf : Tok) (ccl cl : Value) (cdd cld : Option Addr) (ccs csl : Array (Option Value)),
    K.lookup fI = some ⟨oc, od, .func (ksFn "__init__" qual (iA0 p1) [iSup msg kM q1 q2 q3 q4 q5 q6] iS0 .none kV doc pm an (.ref cda) ct cc), osl⟩ ∧ codeIn K (.ref cda) qual = true ∧
    K.lookup cda = some ⟨ccl, cdd, .fields vs, ccs⟩ ∧ vs[2]? = some (.str file tf) ∧ ((prog.main.file : Str) == file) = true ∧ K.lookup cc = some ⟨cl, cld, .cell (some (.ref C)), csl⟩ ∧ (prog.main.scope.names.lookup ("super" : Str)).isSome = false ∧ (q3.endLine == q5.line) = true
section
variable {prog : Program} {w : World} {A : Around} {R : Result → Shared → Prop} {s : Shared} {B newId initId : String} {bmB : List Value} {K : Frag} {mg : Str → Option Value} {base : Heap} {C W fI : Addr}
theorem init0 (Z : Root B newId initId bmB) (T : ErrT K mg newId initId bmB C W fI) (M : L2.Mod K mg base) (kb : ∀ b o, base.get? b = some o → s.heap.get? b = some o)
    (N : Fn0 prog K C fI) {x t0 : Addr} (hx : s.heap.get? x = some (excO C t0)) (hroom : A.depth < recursionLimit)
    (hq : ∀ h' tk t1, (∀ b o, b ≠ x → s.heap.get? b = some o → h'.get? b = some o) → h'.get? x = some (excD C t1 none) → R (.ok (.ret .none)) { s with heap := h', toks := tk }) :
    codeAny (model prog w) A (.call (.ref fI) ⟨[.ref x], []⟩) R s := by
  obtain ⟨oc, od, qual, msg, kM, kV, doc, pm, an, cda, cc, ct, osl, p1, q1, q2, q3, q4, q5, q6, vs, file, tf, ccl, cl, cdd, cld, ccs, csl, lf, lcd, lc, hvs, hfile, lcell, htop, hl1⟩ := N
  have X : K.In s.heap := M.kin.keeps kb
  refine ks_codeAny_call_defAt (fd := ksFn "__init__" qual (iA0 p1) [iSup msg kM q1 q2 q3 q4 q5 q6] iS0 .none kV doc pm an (.ref cda) ct cc) (body := [iSup msg kM q1 q2 q3 q4 q5 q6]) (binds := [("self", .ref x)]) hroom (X _ _ lf) rfl (M.nolimit.keeps kb) (codeRec_of X lcd) rfl (.of_eq rfl) cellS0 (locS0 _) (fun h₁ hns hk₁ => ?_) rfl rfl rfl
  refine ks_wpAt_execs_cons (sup_stmt Z T M (fun b o e => hk₁ b o (kb b o e)) lf rfl rfl lc hvs hfile lcell htop rfl rfl rfl hl1 rfl rfl hns (m := fun y => [((PySem.Str.ofString "self" : Str), Value.ref x)].reverse.lookup y) (by rfl) (hk₁ _ _ hx) fun h₂ tk₂ t2 k₂ e₂ => ?_)
  refine _root_.PySem.wpAt_of_wpAny ?_
  exact wpAny_execs_nil (hq h₂ tk₂ t2 (fun b o hb e => k₂ b o hb (hk₁ b o e)) e₂)
end
end Fx
namespace Fx
open PySem L2
open PySem.W (Frag)
section
variable {X : Cx} {pins : List (Addr × Obj)} {σ : St} {H : Hp} {s : Shared} {B newId initId : String} {bmB : List Value} {C W fI : Addr} {k : Nat} {x : Str} {p pos : Pos}
/-- C(), C's __init__ without parameters -/
theorem pe_err0 (Z : Root B newId initId bmB) (T : ErrT X.K X.mg newId initId bmB C W fI) (N : Fn0 X.prog X.K C fI) (hr : Room (k + 1) X.A) (gC : X.mg x = some (.ref C)) (hg : Gl X x)
    (hdb : (x == ("__debug__" : Str)) = false := by decide) : PE X (.Call (.Name x p) [] [] pos) (fun σ H Q => ∀ a, H a = none → Q (.ref a) (upd H a (exo a C none))) := by
  refine ⟨fun pins s σ H Q I h => ?_⟩
  refine wpAny_Call_Name_kw (ld_glob I hg gC ?_ hdb)
  refine PySem.W.callWith_K0 I.kIn T.kC ?_
  obtain ⟨nm, q, N', bs, sn, sub, ab, col, dd, k0, k1, k2, k3, k5, hC⟩ := T.cls
  obtain ⟨hp, g, dr, tk, os⟩ := s
  have kk : ∀ b o, hp.get? b = some o → ((hp.push (PySem.W.kdv_tup [])).push (PySem.HandSPX.excO C hp.objs.size)).get? b = some o := fun b o e => Heap.get?_push_of_some _ (Heap.get?_push_of_some _ e)
  have hget : ((hp.push (PySem.W.kdv_tup [])).push (PySem.HandSPX.excO C hp.objs.size)).get? (hp.objs.size + 1) = some (PySem.HandSPX.excO C hp.objs.size) := by heap_get
  show wpAny _ _ (call (.ref C) []) _ _ _
  refine wpAny_call (kw_call Z.fb (hT_of Z W) (I.kIn _ _ hC) (PySem.W.looks_findIn I.kIn T.iC) (fun self => PySem.W.bind_fn I.kIn self T.tI) (by show 0 ≤ sizeLine; exact Nat.zero_le _) ?_)
  refine init0 (s := ⟨(hp.push (PySem.W.kdv_tup [])).push (PySem.HandSPX.excO C hp.objs.size), g, dr, tk, os⟩) Z T I.ok.mod (fun b o e => kk b o (I.bk b o e)) N hget ?_ fun h' tk' t1 k1 e1 => ?_
  · rw [make_depth]
    have := hr.dp
    omega
  · have old : ∀ b o, hp.get? b = some o → h'.get? b = some o := fun b o e => k1 b o (Nat.ne_of_lt (Nat.lt_succ_of_lt (Heap.lt_size e))) (kk b o e)
    have na : H (hp.objs.size + 1) = none := I.hok.fresh (Nat.le_succ _)
    exact ⟨rfl, .ref (hp.objs.size + 1), _, I.laid (t' := tk') (a := hp.objs.size + 1) (o := exo (hp.objs.size + 1) C none) old (Nat.le_succ _) (exo_ok e1), rfl, h _ na⟩
/-- C(), C without an __init__ of its own -/
theorem pe_exc0 {bm0 : List Value} (F : ExcBaseFacts B newId initId bm0) (q : PySem.W.excIn X.K C bm0 newId = true) (gC : X.mg x = some (.ref C)) (kC : PySem.W.keepIn X.K (.ref C) = true) (hg : Gl X x)
    (hdb : (x == ("__debug__" : Str)) = false := by decide) : PE X (.Call (.Name x p) [] [] pos) (fun σ H Q => ∀ a, H a = none → Q (.ref a) (upd H a (ExO (.ref C) a))) := by
  refine ⟨fun pins s σ H Q I h => ?_⟩
  refine wpAny_Call_Name_kw (ld_glob I hg gC ?_ hdb)
  refine PySem.W.callWith_K0 I.kIn kC ?_
  show wpAny _ _ (call (.ref C) []) _ _ _
  obtain ⟨bm, N, nm, qn, bs, hdct, sn, sub, ab, col, dd, k0, k1, k2, k3, k5, mN, hC, hN, hni, T⟩ := exc_obj I.kIn q
  refine wpAny_call_exc_subT F T hC hN hni (fun h' a hm => ?_) (Nat.zero_le _)
  have hn : H a = none := I.hok.gone hm.new
  obtain ⟨t, ht, _, _⟩ := hm.there
  exact ⟨.ref a, upd H a (ExO (.ref C) a), I.laidN hm.keeps hm.new hn (exO_ok ht ⟨rfl, rfl⟩ rfl rfl rfl (show 4 < 6 by decide)), rfl, h a hn⟩
end
end Fx
set_option Elab.async false
set_option linter.all false
set_option maxRecDepth 100000
set_option maxHeartbeats 4000000
namespace Rl
open PySem PySem.Spec PyProof.Rows L2 Gd
/-! rules whose readings say of a new object only that it stands, and that all stands that stood -/
theorem same_new {H : Hp} {p : Addr} {o : HO} (n : H p = none) : Same H (upd H p o) := fun b u e => by
  rw [upd_ne (ne_of_none e n)]
  exact e
theorem Same.seqT {K : PySem.W.Frag} {H H' : Hp} {a : Addr} {xs : List V} (e : Same H H') (h : SqT K H a xs) : SqT K H' a xs := by
  rcases h with (h | ⟨o, h⟩) | h
  · exact .inl (.inl (e _ _ h))
  · exact .inl (.inr ⟨o, e _ _ h⟩)
  · exact .inr h
mutual
theorem dp_same {K : PySem.W.Frag} {H H' : Hp} (e : Same H H') : ∀ (d : PyData) {v : V}, Dp K H v d → Dp K H' v d
  | .none, _, h => by cases h; exact .non
  | .bool b, _, h => by cases h; exact .bl b
  | .int i, _, h => by cases h; exact .int i
  | .str z, _, h => by cases h; exact .str z
  | .list ds, _, h => by
    cases h with
    | lst hs ha => exact .lst (e.seq hs) (dp_sameAll e ds ha)
  | .tuple ds, _, h => by
    cases h with
    | tup hs ha => exact .tup (Same.seqT e hs) (dp_sameAll e ds ha)
  | .dict _, _, h => by cases h
theorem dp_sameAll {K : PySem.W.Frag} {H H' : Hp} (e : Same H H') : ∀ (ds : List PyData) {vs : List V}, DpAll K H vs ds → DpAll K H' vs ds
  | [], _, h => by cases h; exact .nil
  | d :: ds, _, h => by
    cases h with
    | cons h1 h2 => exact .cons (dp_same e d h1) (dp_sameAll e ds h2)
end
theorem rp_same {K : PySem.W.Frag} {H H' : Hp} (e : Same H H') {d : PyData} {v : V} (h : Rp K H v d) : Rp K H' v d := by
  rcases h with h | ⟨a, kvs, ds, rfl, ha, hp, rfl⟩
  · exact .inl (dp_same e d h)
  · exact .inr ⟨a, kvs, ds, rfl, e _ _ ha, hp, rfl⟩
/-- a new object o at p -/
def New (H : Hp) (p : Addr) (o : HO) (H' : Hp) : Prop := H p = none ∧ H' p = some o ∧ Same H H'
theorem New.mk' {H : Hp} {p : Addr} {o : HO} (n : H p = none) : New H p o (upd H p o) := ⟨n, upd_same, same_new n⟩
def tTupR (t : TA) : TE := fun σ H Q => t σ H fun xs H1 => xs.length ≤ 1000 ∧ ∀ p H2, New H1 p (.tup xs) H2 → Q (.ref p) H2
def tLstR (t : TA) : TE := fun σ H Q => t σ H fun xs H1 => xs.length ≤ 1000 ∧ ∀ p H2, New H1 p (.lst xs) H2 → Q (.ref p) H2
section
variable {X : Cx} {es : List Expr} {t : TA} {pos : Pos}
theorem sz1000 {n : Nat} (h : n ≤ 1000) : n ≤ sizeLine := Nat.le_of_lt (small1000 h)
theorem pe_tupR {x1} (h : PA X es t) : PE X (.Tuple es x1 pos) (tTupR t) := by
  refine ⟨fun pins s σ H Q I hq => ?_⟩
  refine wpAny_Tuple_spliced (thn (h.run pos pins s σ H _ I hq) fun us s1 ⟨xs, H1, I1, r, z, q⟩ => ⟨by rw [← r.length]; exact sz1000 z, ?_⟩)
  have hf : H1 s1.heap.objs.size = none := I1.hok.fresh (Nat.le_refl _)
  exact ⟨.ref s1.heap.objs.size, upd H1 s1.heap.objs.size (.tup xs), I1.laid (t' := s1.toks) (fun b u e => Heap.get?_push_of_some _ e) (Nat.le_refl _) ⟨sz1000 z, us, r, ⟨_, Heap.get?_push_size _ rfl, rfl, _, rfl⟩⟩, rfl, q _ _ (.mk' hf)⟩
theorem pe_lstR (h : PA X es t) : PE X (.List es pos) (tLstR t) := by
  refine ⟨fun pins s σ H Q I hq => ?_⟩
  refine wpAny_List_spliced (thn (h.run pos pins s σ H _ I hq) fun us s1 ⟨xs, H1, I1, r, z, q⟩ => ⟨by rw [← r.length]; exact sz1000 z, ?_⟩)
  have hf : H1 s1.heap.objs.size = none := I1.hok.fresh (Nat.le_refl _)
  exact ⟨.ref s1.heap.objs.size, upd H1 s1.heap.objs.size (.lst xs), I1.laid (t' := s1.toks) (fun b u e => Heap.get?_push_of_some _ e) (Nat.le_refl _) ⟨sz1000 z, us, 0, r, Heap.get?_push_size _ rfl⟩, rfl, q _ _ (.mk' hf)⟩
theorem pe_dnewR : PE X (.Dict [] [] pos) (fun σ H Q => ∀ p H2, New H p (.dK []) H2 → Q (.ref p) H2) :=
  ⟨fun pins s σ H Q I h => pe_dnewK.run pins s σ H Q I fun p np => h p _ (.mk' np)⟩
def rCatR : R2 := fun x y H Q => ∃ l b xs zs, x = .ref l ∧ y = .ref b ∧ H l = some (.lst xs) ∧ H b = some (.lst zs) ∧ xs.length + zs.length ≤ 1000 ∧ ∀ p H2, New H p (.lst (xs ++ zs)) H2 → Q (.ref p) H2
theorem op_catR : OpR X (binaryOp .Add) rCatR := by
  intro pins s σ H x y v u Q I rx ry h
  obtain ⟨l, b, xs, zs, e1, e2, h1, h2, z, q⟩ := h
  exact op_cat pins s σ H x y v u Q I rx ry ⟨l, b, xs, zs, e1, e2, h1, h2, sz1000 z, fun p np => q p _ (.mk' np)⟩
def rRepR : R2 := fun x y H Q => ∃ l k xs, x = .ref l ∧ y = .int k ∧ H l = some (.lst xs) ∧ 0 ≤ k ∧ k ≤ 100 ∧ xs.length * k.toNat ≤ 1000 ∧ ∀ p H2, New H p (.lst (List.replicate k.toNat xs).flatten) H2 → Q (.ref p) H2
theorem op_repR : OpR X (binaryOp .Mult) rRepR := by
  intro pins s σ H x y v u Q I rx ry h
  obtain ⟨l, k, xs, e1, e2, h1, h2, h3, z, q⟩ := h
  exact op_rep pins s σ H x y v u Q I rx ry ⟨l, k, xs, e1, e2, h1, by omega, by omega, sz1000 z, fun p np => q p _ (.mk' np)⟩
def rSlR (K : PySem.W.Frag) : V → Option Int → Option Int → Hp → VK → Prop := fun x lo hi H Q => ∃ a xs, x = .ref a ∧ SqL K H a xs ∧ ∀ p H2, New H p (.lst (cutV xs lo hi)) H2 → Q (.ref p) H2
theorem sl_listR : SlR X (rSlR X.K) := by
  intro pins s σ H x v vl vu lo hi sl Q I rx hs pl pu h
  obtain ⟨a, xs, e1, h1, q⟩ := h
  exact sl_list pins s σ H x v vl vu lo hi sl Q I rx hs pl pu ⟨a, xs, e1, h1, fun p np => q p _ (.mk' np)⟩
end
end Rl
namespace Fx
open PySem L2 Rl
open PySem.W (Frag)
/-- an error of the class at C with the one attribute f -/
def ErrAt (H : Hp) (a C : Addr) (f : Str) (y : V) : Prop := ∃ d, H a = some (exo a C (some d)) ∧ H d = some (exd d [(f, y)])
theorem ErrAt.same {H H' : Hp} (s : Same H H') {a C : Addr} {f : Str} {y : V} (h : ErrAt H a C f y) : ErrAt H' a C f y :=
  let ⟨d, h1, h2⟩ := h
  ⟨d, s _ _ h1, s _ _ h2⟩
theorem errAt_new {H : Hp} {a d C : Addr} {f : Str} {y : V} (na : H a = none) (nd : H d = none) (ne : d ≠ a) : ErrAt (upd (upd H d (exd d [(f, y)])) a (exo a C (some d))) a C f y ∧ Same H (upd (upd H d (exd d [(f, y)])) a (exo a C (some d))) :=
  ⟨⟨d, upd_same, by rw [upd_ne ne, upd_same]⟩, fun b u e => by rw [upd_ne (ne_of_none e na), upd_ne (ne_of_none e nd)]; exact e⟩
def tErrR (C : Addr) (f : Str) (te : TE) : TE := fun σ H Q => te σ H fun y H1 => ∀ a H2, ErrAt H2 a C f y → Same H1 H2 → Q (.ref a) H2
section
variable {X : Cx} {B newId initId : String} {bmB : List Value} {C W fI : Addr} {f : Str} {k : Nat} {x : Str} {p pos kpos : Pos} {e : Expr} {te : TE}
theorem pe_errR (Z : Root B newId initId bmB) (T : Err1 X.prog X.K X.mg newId initId bmB C W fI f) (hr : Room (k + 1) X.A) (gC : X.mg x = some (.ref C)) (hg : Gl X x) (he : PE X e te) (hs : starEach [e] X.env = (false, eval e X.env) :: starEach [] X.env := by rfl)
    (hdb : (x == ("__debug__" : Str)) = false := by decide) : PE X (.Call (.Name x p) [e] [] pos) (tErrR C f te) := by
  refine ⟨fun pins s σ H Q I h => ?_⟩
  refine wpAny_Call_Name_kw (ld_glob I hg gC ?_ hdb)
  refine PySem.W.callWith_K (h₀ := X.base) I.ok.mod.kin T.t.kC ?_ hs (by rfl)
  rw [hs]
  show wpAny _ _ (spliced ((false, eval e X.env) :: backTo pos (starEach [] X.env))) _ _ s
  refine Calls.spliced_cons (thn (he.run pins s σ H _ I h) fun u s1 ⟨y, H1, I1, r1, q1⟩ => ?_)
  exact Calls.spliced_nil ⟨I1.kIn, run_err Z T hr I1 r1 (.inl ⟨rfl, rfl⟩) fun a d na nd ne => q1 a _ (errAt_new na nd ne).1 (errAt_new na nd ne).2⟩
theorem pe_errKR (Z : Root B newId initId bmB) (T : Err1 X.prog X.K X.mg newId initId bmB C W fI f) (hr : Room (k + 1) X.A) (gC : X.mg x = some (.ref C)) (hg : Gl X x) (he : PE X e te)
    (hdb : (x == ("__debug__" : Str)) = false := by decide) : PE X (.Call (.Name x p) [] [⟨some f, e, kpos⟩] pos) (tErrR C f te) := by
  refine ⟨fun pins s σ H Q I h => ?_⟩
  refine wpAny_Call_Name_kw (ld_glob I hg gC ?_ hdb)
  refine PySem.W.callWith_KW0 (h₀ := X.base) I.ok.mod.kin T.t.kC (by rfl) ?_ (by rfl)
  have hk : PK X [⟨some f, e, kpos⟩] (tCons te tNil) := pk_cons he pk_nil
  refine thn (hk.run pos pins s σ H (fun vs H1 => match vs with | [y] => ∀ a H2, ErrAt H2 a C f y → Same H1 H2 → Q (.ref a) H2 | _ => False) I h) fun us s1 ⟨vs, H1, I1, r1, q1⟩ => ⟨I1.kIn, ?_⟩
  cases r1 with
  | nil => exact q1.elim
  | cons ry rn =>
    cases rn with
    | nil => exact run_err Z T hr I1 ry (.inr ⟨rfl, rfl⟩) fun a d na nd ne => q1 a _ (errAt_new na nd ne).1 (errAt_new na nd ne).2
    | cons r2 rn => exact q1.elim
end
end Fx
set_option Elab.async false
set_option linter.all false
set_option maxRecDepth 100000
set_option maxHeartbeats 4000000
namespace Rl
open PySem PySem.Spec PyProof.Rows L2 Gd
/-! comprehensions whose readings say what each item is -/
section
variable {J : It} {n : Nat} {G : Hp → Prop} {Y : Nat → Hp → V → Hp → Prop}
/-- [e for x in it]: each item y keeps E, which says of the heap without the list that grows -/
theorem lcR (w : Walk J n G Y) {g : TG} {te : TE} {vs : List Nat} {σ : L2.St} {H1 : Hp} {Q : Addr → Hp → Prop} (n1 : n ≤ 1000) (hG : ∀ H, Same H1 H → G H) (E : Nat → V → Hp → Prop) (hE : ∀ i y H H', Same H H' → E i y H → E i y H')
    (turn : ∀ (D : Addr) (acc : List V) (i : Nat) (x : V) (H H' : Hp) (K : V → Hp → Prop), i < n → Same H1 H → H1 D = none → H D = some (.lst acc) → Y i H x H' → (∀ y H4, Same H H4 → E i y (delH H4 D) → K y H4) → g x (wipe σ vs) H' fun σ2 H2 => wipe σ2 vs = wipe σ vs ∧ te σ2 H2 K)
    (done : ∀ (D : Addr) (H' : Hp) (ys : List V), New H1 D (.lst ys) H' → ys.length = n → (∀ i y, ys[i]? = some y → E i y (delH H' D)) → Q D H') :
    ∀ D, H1 D = none → ∃ W : Nat → Nat → Hp → Prop, (∃ m, W 0 m (upd H1 D (.lst []))) ∧ ∀ i m H, W i m H →
      (J.stop i H ∧ Q D H) ∨ (J.go i H ∧ ∃ Nx : Hp → Prop, (∀ H', Nx H' → ∃ m', m' < m ∧ W (i + 1) m' H') ∧ ∀ x H', J.yld i H x H' → g x (wipe σ vs) H' fun σ2 H2 => wipe σ2 vs = wipe σ vs ∧ tYes σ2 H2 fun b H3 =>
        if b = true then te σ2 H3 fun y H4 => ∃ acc, H4 D = some (.lst acc) ∧ acc.length < sizeLine ∧ Nx (upd H4 D (.lst (acc ++ [y]))) else Nx H3) := by
  intro D hD
  refine lc_it w (Qd := fun H => Q D H) (fun i H => Same H1 H ∧ ∃ acc, H D = some (.lst acc) ∧ acc.length = i ∧ ∀ j y, acc[j]? = some y → E j y (delH H D)) ⟨same_new hD, [], upd_same, rfl, fun j y e => by simp at e⟩ (fun i H _ ⟨s, _⟩ => hG H s) ?_ ?_
  · rintro i x H H' hi ⟨s, acc, ha, hl, he⟩ y
    refine turn D acc i x H H' _ hi s hD ha y fun v H4 s4 e4 => ?_
    have hD4 := s4 _ _ ha
    refine ⟨acc, hD4, small1000 (by omega), fun b u e => ?_, acc ++ [v], upd_same, by rw [List.length_append, hl]; rfl, fun j z ej => ?_⟩
    · rw [upd_ne (ne_of_none e hD)]
      exact s4 _ _ (s b u e)
    · have up : ∀ {Ha : Hp}, Same Ha H4 → Same (delH Ha D) (delH (upd H4 D (.lst (acc ++ [v]))) D) := fun {Ha} sa b u e => by
        by_cases q : b = D
        · rw [q, delH_same] at e
          cases e
        · rw [delH_ne q] at e
          rw [delH_ne q, upd_ne q]
          exact sa b u e
      by_cases q : j < acc.length
      · rw [List.getElem?_append_left q] at ej
        exact hE _ _ _ _ (up s4) (he j z ej)
      · rw [List.getElem?_append_right (by omega)] at ej
        have e0 : j - acc.length = 0 := by
          cases r : j - acc.length with
          | zero => rfl
          | succ m =>
            rw [r] at ej
            simp at ej
        rw [e0] at ej
        have ez : v = z := by simpa using ej
        subst ez
        have ej2 : j = i := by omega
        subst ej2
        exact hE _ _ _ _ (up (Same.refl _)) e4
  · rintro H ⟨s, acc, ha, hl, he⟩
    exact done D H acc ⟨hD, ha, s⟩ hl he
end
/-- a list told item by item -/
theorem list_of {n : Nat} {ys : List V} {f : Nat → V} (hl : ys.length = n) (h : ∀ i y, ys[i]? = some y → y = f i) : ys = (List.range n).map f := by
  apply List.ext_getElem
  · rw [hl, List.length_map, List.length_range]
  · intro i h1 h2
    rw [List.getElem_map, List.getElem_range]
    exact h i _ (by simp [h1])
/-! ### types of data -/
def tyN : PyData → String
  | .none => "NoneType"
  | .bool _ => "bool"
  | .int _ => "int"
  | .str _ => "str"
  | .list _ => "list"
  | .tuple _ => "tuple"
  | .dict _ => "dict"
theorem sql_ty {K : PySem.W.Frag} {H : Hp} {a : Addr} {xs : List V} (h : SqL K H a xs) : TyX K H (.ref a) (.type "list") := by
  rcases h with (h | ⟨o, h⟩) | ⟨o, its, n, h, c, _⟩
  · exact .base (.lst h)
  · exact .base (.frz h)
  · exact .kList h c
theorem sqt_ty {K : PySem.W.Frag} {H : Hp} {a : Addr} {xs : List V} (h : SqT K H a xs) : TyX K H (.ref a) (.type "tuple") := by
  rcases h with (h | ⟨o, h⟩) | ⟨o, its, n, h, c, _⟩
  · exact .base (.tup h)
  · exact .fTuple h
  · exact .kTuple h c
theorem rp_ty {K : PySem.W.Frag} {H : Hp} {v : V} {d : PyData} (h : Rp K H v d) : TyX K H v (.type (tyN d)) := by
  rcases h with h | ⟨a, kvs, ds, rfl, ha, _, rfl⟩
  · cases h with
    | non => exact .base .non
    | bl b => exact .base (.bl b)
    | int i => exact .base (.int i)
    | str z => exact .base (.str z)
    | lst h _ => exact sql_ty h
    | tup h _ => exact sqt_ty h
  · exact .base (.dK ha)
/-- isinstance(x, T), T a built-in type, x data -/
def rIsD (K : PySem.W.Frag) (T : String) : List V → Hp → VK → Prop := fun xs H Q => ∃ (v : V) (d : PyData) (b : Bool), xs = [v, .ty T] ∧ Rp K H v d ∧ kitB (tyN d) T = some b ∧ Q (.bl b) H
theorem call_isD {X : Cx} {T : String} : CallR X (.builtin "isinstance") (rIsD X.K T) := by
  intro pins s σ H xs us Q I r h
  obtain ⟨v, d, b, e, hd, hb, q⟩ := h
  exact call_isi pins s σ H xs us Q I r ⟨v, .ty T, .type (tyN d), .type T, b, e, .ty T, rp_ty hd, kit_ty hb, q⟩
theorem kit_int (d : PyData) : kitB (tyN d) "int" = some (match d with | .int _ => true | .bool _ => true | _ => false) := by
  cases d <;> (first | decide +kernel | (simp only [tyN]; decide +kernel))
theorem kit_bool (d : PyData) : kitB (tyN d) "bool" = some (match d with | .bool _ => true | _ => false) := by
  cases d <;> (first | decide +kernel | (simp only [tyN]; decide +kernel))
theorem kit_str (d : PyData) : kitB (tyN d) "str" = some (match d with | .str _ => true | _ => false) := by
  cases d <;> (first | decide +kernel | (simp only [tyN]; decide +kernel))
theorem kit_tuple (d : PyData) : kitB (tyN d) "tuple" = some (match d with | .tuple _ => true | _ => false) := by
  cases d <;> (first | decide +kernel | (simp only [tyN]; decide +kernel))
theorem dp_at {K : PySem.W.Frag} {H : Hp} : ∀ {vs : List V} {ds : List PyData}, DpAll K H vs ds → ∀ {i : Nat} {v : V}, vs[i]? = some v → ∃ d, ds[i]? = some d ∧ Dp K H v d
  | _, _, .nil, i, v, e => by simp at e
  | _, _, .cons a b, 0, v, e => by
    simp at e
    subst e
    exact ⟨_, rfl, a⟩
  | _, _, .cons a b, i + 1, v, e => dp_at b (i := i) (by simpa using e)
theorem dp_len {K : PySem.W.Frag} {H : Hp} : ∀ {vs : List V} {ds : List PyData}, DpAll K H vs ds → vs.length = ds.length
  | _, _, .nil => rfl
  | _, _, .cons a b => by
    rw [List.length_cons, List.length_cons, dp_len b]
theorem dp_of {K : PySem.W.Frag} {H : Hp} : ∀ {vs : List V} {ds : List PyData}, vs.length = ds.length → (∀ (i : Nat) (v : V), vs[i]? = some v → ∃ d, ds[i]? = some d ∧ Dp K H v d) → DpAll K H vs ds
  | [], [], _, _ => .nil
  | [], _ :: _, h, _ => by simp at h
  | _ :: _, [], h, _ => by simp at h
  | v :: vs, d :: ds, h, e => by
    obtain ⟨d', e1, e2⟩ := e 0 v rfl
    have e3 : d = d' := by simpa using e1
    subst e3
    exact .cons e2 (dp_of (by simpa using h) fun i v q => e (i + 1) v (by simpa using q))
end Rl
set_option Elab.async false
set_option linter.all false
set_option maxRecDepth 100000
set_option maxHeartbeats 8000000
namespace Pg
open PySem PySem.Spec PyProof.Rows L2 Gd Rl
def top (i : Nat) : Stmt := PySem.Challenge.pw_fallranks_k45_endless_runs_judged.main.body.getD i (.Pass ⟨0, 0, 0, 0⟩)
abbrev FnP (K : PySem.W.Frag) (x : Str) (st : Stmt) (f : Addr) (fd : FuncData) : Prop := FunD K x x (defArgs st) (defBody st) (defScope st) [] [] f fd
abbrev sInt : Stmt := top 19
abbrev sName : Stmt := top 21
abbrev sInts : Stmt := top 22
abbrev sForm : Stmt := top 23
abbrev sForms : Stmt := top 24
/-! ### what data is, in plain Lean -/
def letS : Str := "abcdefghijklmnopqrstuvwxyz"
def figS : Str := "0123456789"
def intB : PyData → Bool
  | .int _ => true
  | _ => false
def nameS (z : Str) : Bool := match z.cps.toList with
  | [] => false
  | c :: r => decide ((c :: r).length ≤ 8) && (decide (c ∈ letS.cps.toList) && (c :: r).all fun c => decide (c ∈ (letS ++ figS).cps.toList))
def nameB : PyData → Bool
  | .str z => nameS z
  | _ => false
def numB : PyData → Bool
  | .int i => decide (-1000000 ≤ i) && decide (i ≤ 1000000)
  | _ => false
def intsB (n : Nat) : PyData → Bool
  | .tuple ds => decide (ds.length = n) && ds.all intB
  | _ => false
def formB (m : Nat) : PyData → Bool
  | .tuple ds => decide (ds.length = m + 1) && ds.all numB
  | _ => false
def formsB (m : Nat) : PyData → Bool
  | .tuple ds => ds.all (formB m)
  | _ => false
def lenD : PyData → Nat
  | .tuple ds => ds.length
  | _ => 0
def sayB (m : Nat) : PyData → Bool
  | .tuple [p, f] => nameB p && formB m f
  | _ => false
def brB (m : Nat) : PyData → Bool
  | .tuple [s, t, ts, cs] => nameB s && (nameB t && ((formsB m ts && decide (lenD ts ≤ 3)) && (formsB m cs && decide (lenD cs = m))))
  | _ => false
mutual
/-- no text and no row within is too long -/
def okD : PyData → Bool
  | .str z => decide (z.length ≤ 1000)
  | .list ds => decide (ds.length ≤ 1000) && okAll ds
  | .tuple ds => decide (ds.length ≤ 1000) && okAll ds
  | _ => true
def okAll : List PyData → Bool
  | [] => true
  | d :: ds => okD d && okAll ds
end
theorem ok_at : ∀ {ds : List PyData}, okAll ds = true → ∀ {i : Nat} {d : PyData}, ds[i]? = some d → okD d = true
  | [], _, i, d, e => by simp at e
  | a :: ds, h, 0, d, e => by
    simp at e
    subst e
    rw [okAll, Bool.and_eq_true] at h
    exact h.1
  | a :: ds, h, i + 1, d, e => by
    rw [okAll, Bool.and_eq_true] at h
    exact ok_at h.2 (i := i) (by simpa using e)
theorem all_getD (l : List Nat) (p : Nat → Bool) : ((List.range l.length).map fun i => p (l.getD i 0)).all id = l.all p := by
  have e : ((List.range l.length).map fun i => p (l.getD i 0)) = l.map p := by
    apply List.ext_getElem
    · simp
    · intro i h1 h2
      simp only [List.length_map, List.length_range] at h1
      simp [List.getD_eq_getElem?_getD, List.getElem?_eq_getElem h1]
  rw [e, List.all_map]
  rfl
/-- what the walk asks of the module -/
structure Mo (mg : Str → Option Value) : Prop where
  isi : mg "isinstance" = none
  int : mg "int" = none
  bool : mg "bool" = none
  str : mg "str" = none
  tuple : mg "tuple" = none
  len : mg "len" = none
  all : mg "all" = none
  enum : mg "enumerate" = none
  lname : ∃ t, mg "LONGEST_NAME" = some (.int 8 t)
  lets : ∃ t, mg "LETTERS" = some (.str letS t)
  figs : ∃ t, mg "FIGURES" = some (.str figS t)
  mnum : ∃ t, mg "MOST_NUMBER" = some (.int 1000000 t)
  mvar : ∃ t, mg "MOST_VARIABLES" = some (.int 3 t)
  mpla : ∃ t, mg "MOST_PLACES" = some (.int 3 t)
  mbra : ∃ t, mg "MOST_BRANCHES" = some (.int 5 t)
  mtes : ∃ t, mg "MOST_TESTS" = some (.int 3 t)
  msay : ∃ t, mg "MOST_SAYINGS" = some (.int 3 t)
/-- a judge of data: one argument -/
def spJ (K : PySem.W.Frag) (B : PyData → Bool) : Sp := fun vs H Q _ => ∃ (v : V) (d : PyData), vs = [v] ∧ Rp K H v d ∧ okD d = true ∧ ∀ H', Same H H' → Q (.bl (B d)) H'
/-- two arguments, the second how many variables -/
def spJ2 (K : PySem.W.Frag) (B : Nat → PyData → Bool) : Sp := fun vs H Q _ => ∃ (v : V) (d : PyData) (m : Nat), vs = [v, .int m] ∧ Rp K H v d ∧ okD d = true ∧ ∀ H', Same H H' → Q (.bl (B m d)) H'
section
variable {P : Program} {w : World} {K : PySem.W.Frag} {mg : Str → Option Value} {base : Heap} {f : Addr} {fd : FuncData}
theorem scInt : FnScope ["value"] ["value"] (defScope sInt) := ⟨rfl, rfl, rfl, by decide +kernel, rfl, by decide +kernel, by decide +kernel⟩
theorem ok_int (F : FnP K "is_integer" sInt f fd) (T : Mo mg) : FnOk P w K mg base CX0 1 f fd ["value"] (spJ K intB) := by
  refine F.ok scInt (fun vs H Q E h => ?_) (fun cdv A outer s H vs Q E hr h => ?_)
  · obtain ⟨v, d, rfl, _⟩ := h
    rfl
  · obtain ⟨v, d, rfl, hd, ho, k⟩ := h
    refine ⟨_, PSs.nox <| pss_one (ps_ret (pe_and (pe_callB (call_isD (T := "int")) (by rfl) T.isi boot_isinstance (pa_cons (pv 0) (pa_cons (pe_bltn (v := .ty "int") (by rfl) T.int (by decide +kernel) rfl) pa_nil)))
      (pe_one (pe_not (pe_callB (call_isD (T := "bool")) (by rfl) T.isi boot_isinstance (pa_cons (pv 0) (pa_cons (pe_bltn (v := .ty "bool") (by rfl) T.bool (by decide +kernel) rfl) pa_nil))))))), ?_⟩
    refine ⟨_, rfl, v, d, _, rfl, hd, kit_int d, _, rfl, ?_⟩
    have k0 := k H (Same.refl H)
    cases d with
    | int i => exact ⟨_, rfl, v, _, _, rfl, hd, kit_bool _, _, rfl, k0⟩
    | bool b => exact ⟨_, rfl, v, _, _, rfl, hd, kit_bool _, _, rfl, k0⟩
    | none => exact k0
    | str z => exact k0
    | list ds => exact k0
    | tuple ds => exact k0
    | dict ds => exact k0
theorem scName : FnScope ["value", "sign"] ["value"] (defScope sName) := ⟨rfl, rfl, rfl, by decide +kernel, rfl, by decide +kernel, by decide +kernel⟩
theorem ok_name (F : FnP K "is_name" sName f fd) (T : Mo mg) : FnOk P w K mg base CX0 1 f fd ["value"] (spJ K nameB) := by
  obtain ⟨t1, c1⟩ := T.lname
  obtain ⟨t2, c2⟩ := T.lets
  obtain ⟨t3, c3⟩ := T.figs
  refine F.ok scName (fun vs H Q E h => ?_) (fun cdv A outer s H vs Q E hr h => ?_)
  · obtain ⟨v, d, rfl, _⟩ := h
    rfl
  · obtain ⟨v, d, rfl, hd, ho, k⟩ := h
    refine ⟨_, PSs.nox <| pss_cons (ps_if (PW.pt (pw_or (pt_not (pt_val (pe_callB (call_isD (T := "str")) (by rfl) T.isi boot_isinstance (pa_cons (pv 0) (pa_cons (pe_bltn (v := .ty "str") (by rfl) T.str (by decide +kernel) rfl) pa_nil)))))
        (pw_or1 (pt_not (pt_chain op_le op_le pe_int (pe_callB call_len_str (by rfl) T.len PySem.boot_len (pa_cons (pv 0) pa_nil)) (pe_glob (v := .int 8) (by rfl) c1 ⟨_, rfl⟩)))))) (pss_one (ps_ret pe_bl)) pss_nil)
      <| pss_one (ps_ret (pe_and (pe_cmpR op_in_sign (pe_item_str (pv 0) pe_int (fun _ _ => rfl)) (pe_glob (v := .str letS) (by rfl) c2 ⟨_, rfl⟩) (by rfl))
        (pe_one (pe_callB (cr_all rfl) (by rfl) T.all (by decide +kernel) (pa_cons (pe_lc (own := [("sign", 1)]) (g := gName 1) (tt := tYes) rfl scName.nd (pi_str (pv 0)) (blkOk_by (N := ["value", "sign"]) (sc := defScope sName) (by decide +kernel)) (fun _ _ _ _ _ => pg_name (i := 1) scName.nd rfl (Or.inl rfl)) (fun _ _ _ _ _ => pts_nil)
          (fun _ _ _ _ _ => pe_cmpR op_in_sign (pv 1) (pe_op op_add_str (pe_glob (v := .str letS) (by rfl) c2 ⟨_, rfl⟩) (pe_glob (v := .str figS) (by rfl) c3 ⟨_, rfl⟩)) (by rfl))) pa_nil))))), ?_⟩
    refine ⟨_, rfl, v, d, _, rfl, hd, kit_str d, _, rfl, ?_⟩
    have k0 := k H (Same.refl H)
    cases d with
    | str z =>
      have hv : v = V.str z := by
        rcases hd with hd | ⟨a, kvs, ds, _, _, _, e⟩
        · cases hd
          rfl
        · cases e
      subst hv
      have hz : z.length ≤ 1000 := of_decide_eq_true ho
      have lz : (z.length : Int) = (z.cps.toList.length : Nat) := by
        rw [Array.length_toList]
        rfl
      refine iteF ?_
      refine ⟨_, rfl, z, rfl, sz1000 hz, _, _, rfl, rfl, _, rfl, ?_⟩
      refine ite2 (fun h1 => ?_) (fun h1 => ?_)
      · refine ⟨_, _, rfl, rfl, _, rfl, ?_⟩
        have h1' : 1 ≤ z.length := by
          have := of_decide_eq_true h1
          omega
        obtain ⟨c, r, hl⟩ : ∃ c r, z.cps.toList = c :: r := by
          cases hl : z.cps.toList with
          | nil =>
            rw [hl] at lz
            simp at lz
            omega
          | cons c r => exact ⟨c, r, rfl⟩
        have hlen : z.length = (c :: r).length := by
          rw [hl] at lz
          omega
        have hB : nameB (.str z) = (decide ((c :: r).length ≤ 8) && (decide (c ∈ letS.cps.toList) && (c :: r).all fun c => decide (c ∈ (letS ++ figS).cps.toList))) := by
          show nameS z = _
          unfold nameS
          rw [hl]
        by_cases h2 : z.length ≤ 8
        · rw [show decide ((z.length : Int) ≤ 8) = true from decide_eq_true (by omega)]
          refine iteF ?_
          have hc0 : z.cps[(0 : Int).toNat]? = some c := by
            rw [← Array.getElem?_toList, hl]
            rfl
          refine ⟨_, rfl, z, 0, c, rfl, rfl, by decide, by decide, by omega, hc0, c, letS, rfl, rfl, _, rfl, ?_⟩
          rw [show decide ((c :: r).length ≤ 8) = true from decide_eq_true (by omega), Bool.true_and] at hB
          by_cases h3 : c ∈ letS.cps.toList
          · rw [decide_eq_true h3] at hB ⊢
            rw [Bool.true_and] at hB
            refine ⟨_, rfl, z, rfl, lcR walk_str (n1 := hz) (fun _ _ => trivial) (fun i y _ => y = .bl (decide ((c :: r).getD i 0 ∈ (letS ++ figS).cps.toList))) (fun _ _ _ _ _ e => e) ?_ ?_⟩
            · rintro D acc i x Ha Hb K2 hi s nD hD ⟨rfl, c', ec, rfl⟩ kk
              refine ⟨rfl, _, rfl, _, _, rfl, rfl, by decide +kernel, c', _, rfl, rfl, kk _ _ (Same.refl _) ?_⟩
              have e2 : (c :: r)[i]? = some c' := by
                rw [← hl, Array.getElem?_toList]
                exact ec
              rw [List.getD_eq_getElem?_getD, e2]
              rfl
            · rintro D Hb ys nw hlen2 he
              have ey : ys = ((List.range z.cps.size).map fun i => decide ((c :: r).getD i 0 ∈ (letS ++ figS).cps.toList)).map V.bl := by
                rw [List.map_map]
                exact list_of hlen2 he
              refine ⟨D, _, rfl, by rw [← ey]; exact SqL.of nw.2.1, ?_⟩
              have e3 : (((List.range z.cps.size).map fun i => decide ((c :: r).getD i 0 ∈ (letS ++ figS).cps.toList)).all id) = nameB (.str z) := by
                rw [hB, show z.cps.size = (c :: r).length from hlen]
                exact all_getD (c :: r) fun c => decide (c ∈ (letS ++ figS).cps.toList)
              rw [e3]
              exact k Hb nw.2.2
          · rw [decide_eq_false h3] at hB ⊢
            rw [Bool.false_and] at hB
            rw [hB] at k0
            exact k0
        · rw [show decide ((z.length : Int) ≤ 8) = false from decide_eq_false (by omega)]
          refine iteT ?_
          rw [show decide ((c :: r).length ≤ 8) = false from decide_eq_false (by omega), Bool.false_and] at hB
          rw [hB] at k0
          exact k0
      · refine ⟨_, rfl, ?_⟩
        refine iteT ?_
        have h1' : z.length = 0 := by
          have : ¬ (1 : Int) ≤ z.length := fun q => h1 (decide_eq_true q)
          omega
        have hB : nameB (.str z) = false := by
          show nameS z = _
          unfold nameS
          cases hl : z.cps.toList with
          | nil => rfl
          | cons c r =>
            rw [hl] at lz
            simp at lz
            omega
        rw [hB] at k0
        exact k0
    | int i => exact k0
    | bool b => exact k0
    | none => exact k0
    | list ds => exact k0
    | tuple ds => exact k0
    | dict ds => exact k0
end
end Pg
set_option Elab.async false
set_option linter.all false
set_option maxRecDepth 100000
set_option maxHeartbeats 8000000
namespace Ow
open PySem PySem.Spec PyProof.Rows L2 Gd Rl
/-! len, str, repr of an own object; a class called by a local name -/
/-- the class has the method as a plain def at f -/
structure Dun (K : PySem.W.Frag) (C : Addr) (m : Str) (f : Addr) : Prop where
  at_ : PySem.W.findIn K (.ref C) m = some (some (.ref f))
  fn : PySem.W.isFn K (.ref f) = true
section
variable {X : Cx} {k : Nat} {f C : Addr} {fd : FuncData} {sp : Sp} {self : Str}
/-- the def at f called with one object, some ways down -/
theorem call_dn {pins : List (Addr × Obj)} {σ : L2.St} {H : Hp} {s : Shared} {Q : VK} {A : Around} {a : Addr} {Ex : Value → Shared → Prop} (F : FnOk X.prog X.w X.K X.mg X.base CX0 k f fd [self] sp) (hr : Room k A) (e0 : L2.Env0 X.prog X.w X.K X.mg X.base A X.stack s H) (hb : Binds X.K fd [self] []) (I : Inv X pins σ H s) (h : sp [.ref a] H Q E0) :
    wpAny (model X.prog X.w) A (call (.ref f) [.ref a]) (EP X pins σ Q) Ex s := by
  refine wpAny_call (codeAny_mono (F.run A X.stack s H ⟨[.ref a], []⟩ [.ref a] [.ref a] Q E0 hr e0 (hb s [.ref a] I.kIn rfl) (.cons rfl .nil) h) fun r s' hq => ?_)
  cases r with
  | error er => exact hq.elim
  | ok fl =>
    cases fl with
    | ret u => exact I.after hq
    | next => exact hq.elim
    | brk => exact hq.elim
    | cont => exact hq.elim
def rOwn (C : Addr) (sp : Sp) (P : V → Prop) : List V → Hp → VK → Prop := fun xs H Q => ∃ (a dx : Addr) (fs : List (Str × V)), xs = [.ref a] ∧ H a = some (.ins C dx fs) ∧ sp [.ref a] H (fun v H' => P v ∧ Q v H') E0
theorem call_strO (F : FnOk X.prog X.w X.K X.mg X.base CX0 k f fd [self] sp) (hr : Room (k + 2) X.A) (hb : Binds X.K fd [self] []) (d : Dun X.K C "__str__" f) : CallR X (.type "str") (rOwn C sp fun v => ∃ z, v = .str z) := by
  intro pins s σ H xs us Q I r h
  obtain ⟨a, dx, fs, rfl, ea, hq⟩ := h
  obtain ⟨u, rfl, ru⟩ := vals1 r
  cases ru
  obtain ⟨mA, O, _, _, _, _⟩ := ins_get I.hok ea
  obtain ⟨od, J, _⟩ := O.look
  refine PySem.W.kso_call (hr.in1.in1).units0 I.kIn J d.at_ d.fn (wpAny_mono (call_dn F hr.in1.in1 I.env0.in1.in1 hb I hq) (fun v s' hv => ?_) fun _ _ y => y)
  obtain ⟨v', H', I', rv, ⟨z, rfl⟩, q⟩ := hv
  obtain ⟨t, rfl⟩ := rv
  exact ⟨.str z, H', I', ⟨t, rfl⟩, q⟩
theorem call_lenO (F : FnOk X.prog X.w X.K X.mg X.base CX0 k f fd [self] sp) (hr : Room (k + 1) X.A) (hb : Binds X.K fd [self] []) (d : Dun X.K C "__len__" f) : CallR X (.builtin "len") (rOwn C sp fun v => ∃ n : Int, v = .int n ∧ 0 ≤ n ∧ n < 2 ^ 63) := by
  intro pins s σ H xs us Q I r h
  obtain ⟨a, dx, fs, rfl, ea, hq⟩ := h
  obtain ⟨u, rfl, ru⟩ := vals1 r
  cases ru
  obtain ⟨mA, O, _, _, _, _⟩ := ins_get I.hok ea
  obtain ⟨od, J, _⟩ := O.look
  refine Calls.call_function_entry PySem.kind_len PySem.plain_len PySem.entry_len (PySem.args_len1 _) ?_
  unfold Builtin.«len»
  refine wpAny_bind (m := oneArg "len" _) (wpAny_pure ?_)
  refine wpAny_bind (m := callSpecial? (.ref a) (Str.ofString "__len__")) (PySem.W.special_fn I.kIn J d.at_ (beq_iff_eq.mp d.fn) (wpAny_mono (call_dn F hr.in1 I.env0.in1 hb I hq) (fun v s' hv => ?_) fun _ _ y => y))
  obtain ⟨v', H', I', rv, ⟨n, rfl, n0, n1⟩, q⟩ := hv
  obtain ⟨t, rfl⟩ := rv
  refine wpAny_bind (wpAny_holding (wpAny_pure ?_))
  refine wpAny_bind (wpAny_letGo ?_)
  show wpAny _ _ (if n < 0 then _ else _) _ _ _
  rw [if_neg (by omega)]
  show wpAny _ _ (if n ≥ 2 ^ 63 then _ else _) _ _ _
  rw [if_neg (by omega)]
  exact wpAny_bind (wpAny_mkInt (wpAny_pure ⟨_, rfl, .int n, H', I'.tok _, ⟨_, rfl⟩, q⟩))
theorem call_reprO (F : FnOk X.prog X.w X.K X.mg X.base CX0 k f fd [self] sp) (hr : Room (k + 1) X.A) (hb : Binds X.K fd [self] []) (d : Dun X.K C "__repr__" f) : CallR X (.builtin "repr") (rOwn C sp fun v => ∃ z, v = .str z) := by
  intro pins s σ H xs us Q I r h
  obtain ⟨a, dx, fs, rfl, ea, hq⟩ := h
  obtain ⟨u, rfl, ru⟩ := vals1 r
  cases ru
  obtain ⟨mA, O, _, _, _, _⟩ := ins_get I.hok ea
  obtain ⟨od, J, _⟩ := O.look
  refine Calls.call_function_entry PySem.F.kind_repr PySem.F.plain_repr PySem.F.entry_repr (PySem.F.args_repr1 _) ?_
  unfold Builtin.«repr»
  refine wpAny_bind (m := oneArg "repr" _) (wpAny_pure ?_)
  refine wpAny_bind (wpAny_cRoomFor hr.in1.units0 ?_)
  refine wpAny_bind (wpAny_bind (J.type.here ((PySem.W.looks_findIn I.kIn d.at_).here ?_)))
  show wpAny _ _ (if (some (Value.ref f)).isNone = true then _ else _) _ _ _
  rw [if_neg (by simp)]
  refine wpAny_bind (m := callSpecialIfBound? (.ref a) (Str.ofString "__repr__") _) (PySem.W.ifBound_K I.kIn J d.at_ d.fn (wpAny_mono (call_dn F hr.in1 I.env0.in1 hb I hq) (fun v s' hv => ?_) fun _ _ y => y))
  obtain ⟨v', H', I', rv, ⟨z, rfl⟩, q⟩ := hv
  obtain ⟨t, rfl⟩ := rv
  refine wpAny_bind (wpAny_isInstance (typeIs_str _ _ _) isSubtype_str_str ?_)
  have fin : EP X pins σ Q (.str z t) s' := ⟨.str z, H', I', ⟨t, rfl⟩, q⟩
  first
    | exact wpAny_pure ⟨_, rfl, fin⟩
    | (rw [if_pos rfl]; exact wpAny_pure ⟨_, rfl, fin⟩)
    | (simp only [if_true]; exact wpAny_pure ⟨_, rfl, fin⟩)
/-- x(e, ..), the i-th slot holds the class at C -/
def tMakeL (i : Nat) (C : Addr) (sp : Sp) (dvs : List V) (E : XK) (t : TA) : TE := fun σ H Q => σ[i]? = some (some (.ref C)) ∧ tMake C sp dvs E t σ H Q
theorem pe_makeL {CX : CXT} {i : Nat} {ps : List Str} {dvs : List V} {ds : List Value} {E : XK} {x : Str} {p pos : Pos} {e : Expr} {es : List Expr} {t : TA} (M : Mk X.K C f) (F : FnOk X.prog X.w X.K X.mg X.base CX k f fd ps sp) (hr : Room (k + 1) X.A) (hN : X.N[i]? = some x) (hv : Vis X.env.scope x) (hb : Binds X.K fd ps ds) (hd : Vals dvs ds) (hx : Passes CX X E) (ha : PA X (e :: es) t)
    (hdb : (x == ("__debug__" : Str)) = false := by decide) (hcd : (x == ("__classdict__" : Str)) = false := by decide)
    (he : starEach (e :: es) X.env = (false, eval e X.env) :: starEach es X.env := by rfl) (hpl : (backTo pos (starEach es X.env)).any (·.1) = false := by rfl) : PE X (.Call (.Name x p) (e :: es) [] pos) (tMakeL i C sp dvs E t) := by
  refine ⟨fun pins s σ H Q I h => ?_⟩
  obtain ⟨hs, ht⟩ := h
  refine wpAny_Call_Name_kw (thn ((pe_var (pos := p) hN hv hdb hcd).run pins s σ H (fun v H1 => v = .ref C ∧ H1 = H) I ⟨.ref C, hs, rfl, rfl⟩) fun u s1 ⟨v, H1, I1, r1, q1⟩ => ?_)
  obtain ⟨rfl, rfl⟩ := q1
  cases r1
  refine PySem.W.callWith_K (h₀ := X.base) I.ok.mod.kin M.kp (thn (ha.run pos pins s1 σ _ _ I1 ht) fun us s2 ⟨vs, H2, I2, r, q⟩ => ⟨I2.kIn, ?_⟩) he hpl
  exact run_make M F hr hb hd hx I2 r q
end
end Ow
set_option Elab.async false
set_option linter.all false
set_option maxRecDepth 100000
set_option maxHeartbeats 8000000
namespace Ow
open PySem PySem.Spec PyProof.Rows L2 Gd Rl
/-! bool of an own object by its own len -/
section
variable {X : Cx} {k : Nat} {f C : Addr} {fd : FuncData} {sp : Sp} {self : Str}
/-- no class of it has __bool__ -/
def NoBool (K : PySem.W.Frag) (C : Addr) : Prop := PySem.W.findIn K (.ref C) "__bool__" = some none
theorem truth_own {pins : List (Addr × Obj)} {σ : L2.St} {H : Hp} {s : Shared} {Q : VK} {A : Around} {a dx : Addr} {fs : List (Str × V)} {Ex : Value → Shared → Prop} (F : FnOk X.prog X.w X.K X.mg X.base CX0 k f fd [self] sp) (hr : Room (k + 1) A) (e0 : L2.Env0 X.prog X.w X.K X.mg X.base A X.stack s H) (hb : Binds X.K fd [self] []) (d : Dun X.K C "__len__" f) (nb : NoBool X.K C)
    (I : Inv X pins σ H s) (ea : H a = some (.ins C dx fs)) (h : sp [.ref a] H (fun v H' => (∃ n : Int, v = .int n ∧ 0 < n ∧ n < 2 ^ 63) ∧ Q (.bl true) H') E0) :
    wpAny (model X.prog X.w) A (truthy (.ref a)) (fun b s' => b = true ∧ EP X pins σ Q (.bool true) s') Ex s := by
  obtain ⟨mA, O, _, _, _, _⟩ := ins_get I.hok ea
  obtain ⟨od, J, _⟩ := O.look
  unfold truthy
  refine wpAny_bind (m := callSpecial? (.ref a) (Str.ofString "__bool__")) (wpAny_bind (wpAny_bind (J.type.here ((PySem.W.looks_findIn I.kIn nb).here (wpAny_pure ?_)))))
  refine wpAny_bind (wpAny_bind (J.type.here ((PySem.W.looks_findIn I.kIn d.at_).here ?_)))
  show wpAny _ _ (if (some (Value.ref f)).isNone = true then _ else _) _ _ _
  rw [if_neg (by simp)]
  refine wpAny_bind (wpAny_mono (Q := fun r s' => ∃ n t, r = .int n t ∧ 0 < n ∧ EP X pins σ Q (.bool true) s') (wpAny_runValue (codeAny_builtin PySem.entry_len ?_)) (fun r s' h' => ?_) fun _ _ e => e)
  · rw [Around.under_plainId PySem.plain_len _]
    unfold Builtin.«len»
    refine wpAny_bind (m := oneArg "len" _) (wpAny_pure ?_)
    refine wpAny_bind (m := callSpecial? (.ref a) (Str.ofString "__len__")) (PySem.W.special_fn I.kIn J d.at_ (beq_iff_eq.mp d.fn) (wpAny_mono (call_dn F hr.in1 e0.in1 hb I h) (fun v s' hv => ?_) fun _ _ y => y))
    obtain ⟨v', H', I', rv, ⟨n, rfl, n0, n1⟩, q⟩ := hv
    obtain ⟨t, rfl⟩ := rv
    refine wpAny_bind (wpAny_holding (wpAny_pure ?_))
    refine wpAny_bind (wpAny_letGo ?_)
    show wpAny _ _ (if n < 0 then _ else _) _ _ _
    rw [if_neg (by omega)]
    show wpAny _ _ (if n ≥ 2 ^ 63 then _ else _) _ _ _
    rw [if_neg (by omega)]
    exact wpAny_bind (wpAny_mkInt (wpAny_pure ⟨_, _, rfl, n0, .bl true, H', I'.tok _, rfl, q⟩))
  · obtain ⟨n, t, rfl, n0, e⟩ := h'
    refine wpAny_pure ⟨?_, e⟩
    simp
    omega
def rOwnB (C : Addr) (sp : Sp) : List V → Hp → VK → Prop := fun xs H Q => ∃ (a dx : Addr) (fs : List (Str × V)), xs = [.ref a] ∧ H a = some (.ins C dx fs) ∧ sp [.ref a] H (fun v H' => (∃ n : Int, v = .int n ∧ 0 < n ∧ n < 2 ^ 63) ∧ Q (.bl true) H') E0
theorem call_boolO (F : FnOk X.prog X.w X.K X.mg X.base CX0 k f fd [self] sp) (hr : Room (k + 3) X.A) (hb : Binds X.K fd [self] []) (d : Dun X.K C "__len__" f) (nb : NoBool X.K C) : CallR X (.type "bool") (rOwnB C sp) := by
  intro pins s σ H xs us Q I r h
  obtain ⟨a, dx, fs, rfl, ea, hq⟩ := h
  obtain ⟨u, rfl, ru⟩ := vals1 r
  cases ru
  refine callType_codes (T := "bool") (Bi := Builtin.«object.__init__») (Q₁ := fun r s₁ => r = .bool true ∧ EP X pins σ Q (.bool true) s₁) PySem.F.called_bool (PySem.F.typeCall_bool_1 _) PySem.F.entry_object_init ?_ ?_
  · refine codeAny_of_tree ?_
    show wpAny _ X.A.in1.in1 (do checkBuiltinCall "bool.__new__" ⟨[.type "bool", .ref a], []⟩; again (.builtin "bool.__new__" ⟨[.type "bool", .ref a], []⟩)) _ _ s
    refine wpAny_bind (wpAny_of_eq (PySem.F.newCall_bool_1 _) (wpAny_pure ⟨plainId_quiet (by decide +kernel) _, codeAny_builtin PySem.F.entry_bool_new ?_⟩))
    rw [Around.under_plainId (by decide +kernel) _]
    have f1 := PySem.F.conv_sub_bool
    have ht := fun (Ex : Value → Shared → Prop) => truth_own (Ex := Ex) F hr.in1.in1 I.env0.in1.in1 hb d nb I ea hq
    unfold Builtin.«bool.__new__»
    refine wpAny_bind (wpAny_of_eq (a := true) (by first | rfl | (unfold isType; rfl)) ?_)
    simp only [Bool.not_true, Bool.false_eq_true, if_false]
    refine wpAny_bind (wpAny_of_eq f1 ?_)
    simp only [Bool.not_true, Bool.false_eq_true, if_false]
    refine wpAny_bind (m := someArgs _ _ _ _) (wpAny_pure ?_)
    refine wpAny_bind (wpAny_mono (ht _) (fun b s1 hb1 => ?_) fun _ _ e => e)
    obtain ⟨rfl, e⟩ := hb1
    exact wpAny_pure ⟨rfl, e⟩
  · rintro obj s₁ ⟨rfl, hq1⟩
    refine ⟨PySem.typeIs_bool _ _, PySem.F.args_object_init_2 _ _, object_init_meets PySem.F.called_bool.init.lookup PySem.F.called_bool.made (by decide) X.prog X.w X.A.in1 _ s₁ ⟨PySem.typeIs_bool _ _, rfl, hq1⟩⟩
end
end Ow
set_option Elab.async false
set_option linter.all false
set_option maxRecDepth 100000
set_option maxHeartbeats 8000000
namespace Hx
open PySem PySem.Spec PyProof.Rows L2
/-! what of a class with properties and classmethods is looked at, over K -/
def lookF (K : PySem.W.Frag) (a : Addr) : Option FuncData := match K.lookup a with
  | some ⟨_, _, .func q, _⟩ => some q
  | _ => none
def shapeF (q : FuncData) : Str × Str × Arguments × FuncBody × Scope × Addr × List (Str × Addr) × Addr := (q.name, q.qualname, q.params, q.body, q.scope, q.globals, q.closure, q.builtins)
/-- the def at a, as it was written -/
def seenF (K : PySem.W.Frag) (a : Addr) : He.FnW := (lookF K a).map shapeF
def saidF (x q : Str) (st : Stmt) : He.FnW := some (x, q, defArgs st, .stmts (defBody st), defScope st, mainGlobals, [], builtinsNs)
def keptF (K : PySem.W.Frag) (a : Addr) (q : Str) : Bool := match lookF K a with
  | some z => PySem.W.keepIn K (.ref a) && (PySem.W.codeIn K z.code q && (He.dflB K z.defaults [] && He.kwdB K z.kwdefaults []))
  | none => false
theorem lookF_at {K : PySem.W.Frag} {a : Addr} {z : FuncData} (e : lookF K a = some z) : ∃ oc od osl, K.lookup a = some ⟨oc, od, .func z, osl⟩ := by
  unfold lookF at e
  split at e
  · rename_i c d q s h
    cases e
    exact ⟨c, d, s, h⟩
  · cases e
theorem funF {K : PySem.W.Frag} {a : Addr} {x q : Str} {st : Stmt} (e : seenF K a = saidF x q st) (c : keptF K a q = true) : ∃ z, FunD K x q (defArgs st) (defBody st) (defScope st) [] [] a z := by
  unfold keptF at c
  unfold seenF at e
  cases h : lookF K a with
  | none =>
    rw [h] at c
    cases c
  | some z =>
    rw [h] at c e
    obtain ⟨oc, od, osl, lk⟩ := lookF_at h
    have c' : (PySem.W.keepIn K (.ref a) && (PySem.W.codeIn K z.code q && (He.dflB K z.defaults [] && He.kwdB K z.kwdefaults []))) = true := c
    obtain ⟨kp, c1⟩ := Bool.and_eq_true_iff.mp c'
    obtain ⟨cd, c2⟩ := Bool.and_eq_true_iff.mp c1
    obtain ⟨df, kw⟩ := Bool.and_eq_true_iff.mp c2
    have e' : some (shapeF z) = saidF x q st := e
    obtain ⟨m1, m2, m3, m4, m5, m6, m7, m8, m9, m10, m11, m12, m13, m14, m15⟩ := z
    unfold saidF shapeF at e'
    simp only [Option.some.injEq, Prod.mk.injEq] at e'
    obtain ⟨i1, i2, i3, i4, i5, i6, i7, i8⟩ := e'
    subst i1 i2 i3 i4 i5 i6 i7 i8
    exact ⟨_, ⟨oc, od, m8, m9, m10, m11, m12, m13, m14, osl, rfl, lk, cd, He.dflB_ok df, He.kwdB_ok kw⟩, kp⟩
/-- the first of a record's fields, if it is an object -/
def firstR (K : PySem.W.Frag) (p : Addr) (T : String) : Addr := match PySem.W.recIn K p T with
  | some (.ref g :: _) => g
  | _ => 0
def recB (K : PySem.W.Frag) (p : Addr) (T : String) : Bool := match PySem.W.recIn K p T with
  | some (.ref _ :: _) => true
  | _ => false
theorem recB_ok {K : PySem.W.Frag} {p : Addr} {T : String} (h : recB K p T = true) : ∃ rest, PySem.W.recIn K p T = some (.ref (firstR K p T) :: rest) := by
  unfold recB at h
  unfold firstR
  split at h
  · rename_i g r e
    rw [e]
    exact ⟨r, rfl⟩
  · cases h
def propB (K : PySem.W.Frag) (C : Addr) (f : Str) : Bool := He.eqO (PySem.W.findIn K (.ref C) f) (some (some (.ref (He.ma K C f)))) && (He.eqO (PySem.W.specialIn K (.ref (He.ma K C f)) "__get__") (some (some (.builtin "property.__get__"))) &&
  (decide (PySem.W.takesIn K (.ref (He.ma K C f)) = some true) && recB K (He.ma K C f) "property"))
theorem propB_ok {K : PySem.W.Frag} {C : Addr} {f : Str} (h : propB K C f = true) : PropOf K C f (He.ma K C f) (firstR K (He.ma K C f) "property") := by
  unfold propB at h
  obtain ⟨h1, h⟩ := Bool.and_eq_true_iff.mp h
  obtain ⟨h2, h⟩ := Bool.and_eq_true_iff.mp h
  obtain ⟨h3, h4⟩ := Bool.and_eq_true_iff.mp h
  exact ⟨He.eqO_ok h1, He.eqO_ok h2, of_decide_eq_true h3, recB_ok h4⟩
/-- the record of C.m, a classmethod -/
def cmAt (K : PySem.W.Frag) (C : Addr) (m : Str) : Addr := match PySem.W.findCls K (.ref C) (.type "type") m with
  | some (.get _ (.ref p) _ _) => p
  | _ => 0
def cmB (K : PySem.W.Frag) (C : Addr) (m : Str) : Bool := (match PySem.W.findCls K (.ref C) (.type "type") m with
  | some (.get (.builtin n) (.ref _) .none (.ref D)) => n == "classmethod.__get__" && decide (D = C)
  | _ => false) && (recB K (cmAt K C m) "classmethod" && PySem.W.fnIn K (firstR K (cmAt K C m) "classmethod"))
theorem cmB_ok {K : PySem.W.Frag} {C : Addr} {m : Str} (h : cmB K C m = true) : ClX.CMet K C (.type "type") m (cmAt K C m) (firstR K (cmAt K C m) "classmethod") := by
  unfold cmB at h
  obtain ⟨h1, h⟩ := Bool.and_eq_true_iff.mp h
  obtain ⟨h2, h3⟩ := Bool.and_eq_true_iff.mp h
  refine ⟨?_, recB_ok h2, h3⟩
  unfold cmAt
  split at h1
  · rename_i n p D e
    obtain ⟨k1, k2⟩ := Bool.and_eq_true_iff.mp h1
    rw [e, eq_of_beq k1, of_decide_eq_true k2]
  · cases h1
def readB (K : PySem.W.Frag) (C : Addr) : Bool := PySem.W.readsIn K C (.type "type") && He.eqO (PySem.W.specialIn K (.ref C) "__getattribute__") (some (some (.builtin "type.__getattribute__")))
theorem readB_ok {K : PySem.W.Frag} {C : Addr} (h : readB K C = true) : ClX.CRead K C (.type "type") := by
  unfold readB at h
  obtain ⟨h1, h2⟩ := Bool.and_eq_true_iff.mp h
  exact ⟨h1, He.eqO_ok h2⟩
end Hx
set_option Elab.async false
set_option linter.all false
set_option maxRecDepth 100000
set_option maxHeartbeats 8000000
namespace Gd
open PySem PySem.Spec PyProof.Rows L2
/-! a law's end with tables of code objects, its promise kept where nothing is being shown -/
section
variable {P : Program} {w : World} {K : PySem.W.Frag} {mg mb : Str → Option Value} {k : Nat} {fa a : Addr} {fd : FuncData} {x : Str} {sp : Sp} {z : Shared} {vs : List Value} {cs : List (Addr × Addr)}
/-- what is known of the tables -/
structure TabH (K : PySem.W.Frag) (mg : Str → Option Value) (cs : List (Addr × Addr)) (h : Heap) : Prop where
  empty : ∀ p ∈ cs, h.get? p.2 = some { cls := .none, data := .fields #[] }
  out : ∀ p ∈ cs, K.lookup p.2 = none
  code : ∀ p ∈ cs, PySem.W.CodeHd h p.1 p.2
  mod : ∃ (bm : Addr) (ob : Obj), mg "__builtins__" = some (.ref bm) ∧ bm ≠ builtinsNs ∧ h.get? bm = some ob ∧ ob.cls = .type "module" ∧ ob.dict = some builtinsNs ∧ ob.data = .plain
theorem law_coreT {H : Hp} (KX : K.In z.heap) (g1 : z.heap.Ns mainGlobals mg) (g2 : z.heap.Ns builtinsNs mb) (g3 : ∀ y : Str, y ≠ "__name__" → mb y = bootBuiltins y) (g4 : z.heap.NoLimit) (g5 : z.gens = #[]) (T : TabH K mg cs z.heap)
    (ha : z.heap.get? a = some { cls := .type "list", data := .seq vs.toArray }) (hr : Room k callerA) (F : ∀ base : Heap, K.In base → base.Ns mainGlobals mg → (∀ p ∈ cs, LamX.TabB base mg p.1 p.2) → FnG P w K mg base k fa fd [x] sp) (hbind : ∀ (s : Shared) (u : Value), BindsTo s fd ⟨[u], []⟩ [(x, u)])
    (hH : ∀ p ∈ cs, H p.2 = some (.tbl #[])) (only : ∀ b, H b = none ∨ b ∈ cs.map (·.2) ∨ ∃ o xs, H b = some (.frz o (.lst xs))) (hsp : sp [.ref a] H (fun v _ => v = .bl true) fun _ _ _ => False) (ok : HOk P w H z.heap) (hA : ∀ b, H b ≠ none → b = a ∨ b ∈ cs.map (·.2)) (hK : H a ≠ none → K.lookup a = none) :
    codeAny (model P w) callerA (.call (.ref fa) ⟨[.ref a], []⟩) (fun r s' => r = .ok (.ret (.bool true)) ∧ OldK z.heap s'.heap ∧ s'.os = z.os ∧ AllBare s'.gens) z := by
  have tab : ∀ {b : Addr}, b ∈ cs.map (·.2) → ∃ p ∈ cs, p.2 = b := fun {b} hb => List.mem_map.mp hb
  have out : ∀ {b : Addr} {o : Obj}, z.heap.get? b = some o → (∀ xs n, o.data ≠ .seq xs n) → o.data ≠ .fields #[] → H b = none := by
    intro b o e h1 h2
    cases q : H b with
    | none => rfl
    | some u =>
      rcases hA b (by rw [q]; exact fun y => nomatch y) with e' | e'
      · subst e'
        rw [ha] at e
        cases e
        exact absurd rfl (h1 _ _)
      · obtain ⟨p, hp, rfl⟩ := tab e'
        rw [T.empty p hp] at e
        cases e
        exact absurd rfl h2
  have dictOut : ∀ {b : Addr} {o : Obj} {es : Array DictEntry} {ep : Nat}, z.heap.get? b = some o → o.data = .dict es ep → H b = none := fun {b o es ep} e d =>
    out e (fun xs n q => by rw [d] at q; cases q) (fun q => by rw [d] at q; cases q)
  have ns : ∀ {b : Addr} {m : Str → Option Value}, z.heap.Ns b m → (hidT z.heap H).Ns b m := by
    intro b m ⟨o, es, ep, e, d, r⟩
    exact ⟨o, es, ep, hidT_get e (dictOut e d), d, r⟩
  have kin : K.In (hidT z.heap H) := by
    intro b o e
    refine hidT_get (KX b o e) ?_
    cases q : H b with
    | none => rfl
    | some u =>
      rcases hA b (by rw [q]; exact fun y => nomatch y) with e' | e'
      · subst e'
        rw [hK (by rw [q]; exact fun y => nomatch y)] at e
        cases e
      · obtain ⟨p, hp, rfl⟩ := tab e'
        rw [T.out p hp] at e
        cases e
  have mod : Mod K mg (hidT z.heap H) := by
    obtain ⟨mc, h1, h2⟩ := g4
    exact ⟨kin, ns g1, ⟨mb, ns g2, g3⟩, ⟨mc, ns h1, h2⟩⟩
  have tb : ∀ p ∈ cs, LamX.TabB (hidT z.heap H) mg p.1 p.2 := by
    intro p hp
    refine ⟨?_, ?_, fun q => ?_⟩
    · obtain ⟨o, us, file, tf, flags, tg, inF, text, tt, e1, r1, r2, r3, r⟩ := T.code p hp
      refine ⟨o, us, file, tf, flags, tg, inF, text, tt, hidT_get e1 (out e1 (fun xs n q => by rw [r2] at q; cases q) fun q => ?_), r1, r2, r3, r⟩
      rw [r2] at q
      cases q
      simp at r3
    · obtain ⟨bm, ob, b1, b2, b3, b4, b5, b6⟩ := T.mod
      refine ⟨bm, ob, b1, b2, fun q => ?_, fun q => ?_, hidT_get b3 (out b3 (fun xs n q => by rw [b6] at q; cases q) fun q => by rw [b6] at q; cases q), b4, b5, b6⟩
      · obtain ⟨o, es, ep, e, d, _⟩ := g1
        rw [q, e] at b3
        cases b3
        rw [d] at b6
        cases b6
      · rw [q, T.empty p hp] at b3
        cases b3
        cases b6
    · obtain ⟨o, es, ep, e, d, _⟩ := g1
      rw [q, T.empty p hp] at e
      cases e
      cases d
  have e0 : Env0 P w K mg (hidT z.heap H) callerA [] z H :=
    ⟨rfl, mod, fun b o e => of_hidT e, Nat.le_of_eq (hidT_size _ _), trivial, fun b hb => (nomatch (show b ∈ ([] : List Addr) from hb)), ok, .of_eq g5⟩
  refine codeAny_mono ((F _ kin (ns g1) tb).run callerA [] z H ⟨[.ref a], []⟩ [.ref a] [.ref a] _ _ rfl hr e0 (hbind z (.ref a)) (.cons rfl .nil) hsp) fun r s' h => ?_
  cases r with
  | error e => exact h.elim
  | ok fl =>
    cases fl with
    | next => exact h.elim
    | brk => exact h.elim
    | cont => exact h.elim
    | ret u =>
      obtain ⟨v, H', os, bare, un, ok', r', q⟩ := h
      obtain rfl : v = V.bl true := q
      have eu : u = Value.bool true := r'
      subst eu
      have keep : ∀ b o, b ∉ cs.map (·.2) → z.heap.get? b = some o → s'.heap.get? b = some o := fun b o nb e => by
        cases q : H b with
        | none => exact un.keep b o e q (fun y => nomatch (show b ∈ ([] : List Addr) from y)) (fun y => nomatch y)
        | some u =>
          rcases only b with y | y | ⟨ob, xs, y⟩
          · rw [q] at y
            cases y
          · exact absurd y nb
          · obtain ⟨e1, _⟩ := ok b _ y
            obtain ⟨e2, _⟩ := ok' b _ (un.frzs b ob _ y)
            rw [e] at e1
            cases e1
            exact e2
      have grown : ∀ p ∈ cs, ∃ more : Array Value, s'.heap.get? p.2 = some { cls := .none, data := .fields more } := fun p hp => by
        obtain ⟨more, y⟩ := un.tbls p.2 #[] (hH p hp)
        exact ⟨_, ok' p.2 _ y⟩
      refine ⟨rfl, ⟨fun b o e => ?_, fun b o e => ?_⟩, os, bare⟩
      · by_cases hb : b ∈ cs.map (·.2)
        · obtain ⟨p, hp, rfl⟩ := tab hb
          obtain ⟨more, hm⟩ := grown p hp
          rw [T.empty p hp] at e
          cases e
          exact .inr (.inl ⟨((T.code p hp).tab (T.empty p hp)).isCodeTable, rfl, #[], more, rfl, by rw [Array.empty_append]; exact hm⟩)
        · exact .inl (keep b o hb e)
      · by_cases hb : b ∈ cs.map (·.2)
        · obtain ⟨p, hp, rfl⟩ := tab hb
          obtain ⟨more, hm⟩ := grown p hp
          exact ⟨_, hm⟩
        · exact ⟨o, keep b o hb e⟩
theorem law_callT {ns : List Int} (KX : K.In z.heap) (g1 : z.heap.Ns mainGlobals mg) (g2 : z.heap.Ns builtinsNs mb) (g3 : ∀ y : Str, y ≠ "__name__" → mb y = bootBuiltins y) (g4 : z.heap.NoLimit) (g5 : z.gens = #[]) (T : TabH K mg cs z.heap)
    (ha : z.heap.get? a = some { cls := .type "list", data := .seq vs.toArray }) (hi : IntsAre vs ns) (hl : ns.length ≤ sizeLine) (hr : Room k callerA) (F : ∀ base : Heap, K.In base → base.Ns mainGlobals mg → (∀ p ∈ cs, LamX.TabB base mg p.1 p.2) → FnG P w K mg base k fa fd [x] sp) (hbind : ∀ (s : Shared) (u : Value), BindsTo s fd ⟨[u], []⟩ [(x, u)])
    (hsp : ∀ H : Hp, (∀ p ∈ cs, H p.2 = some (.tbl #[])) → SqL K H a (ns.map V.int) → sp [.ref a] H (fun v _ => v = .bl true) fun _ _ _ => False) :
    codeAny (model P w) callerA (.call (.ref fa) ⟨[.ref a], []⟩) (fun r s' => r = .ok (.ret (.bool true)) ∧ OldK z.heap s'.heap ∧ s'.os = z.os ∧ AllBare s'.gens) z := by
  have rv := vals_ints hi
  have lv := hi.length
  have aT : ∀ p ∈ cs, p.2 ≠ a := fun p hp q => by
    have e := T.empty p hp
    rw [q, ha] at e
    cases e
  have mem : ∀ p ∈ cs, p.2 ∈ cs.map (·.2) := fun p hp => List.mem_map.mpr ⟨p, hp, rfl⟩
  have laid : ∀ b, b ∈ cs.map (·.2) → z.heap.get? b = some { cls := .none, data := .fields #[] } := fun b hb => by
    obtain ⟨p, hp, rfl⟩ := List.mem_map.mp hb
    exact T.empty p hp
  cases hk : K.lookup a with
  | some o =>
    have e := KX a o hk
    rw [ha] at e
    cases e
    let H : Hp := fun b => if b ∈ cs.map (·.2) then some (.tbl #[]) else none
    have on : ∀ b, b ∈ cs.map (·.2) → H b = some (.tbl #[]) := fun b hb => if_pos hb
    have off : ∀ b, b ∉ cs.map (·.2) → H b = none := fun b hb => if_neg hb
    have sq : SqL K H a (ns.map V.int) := .inr ⟨_, vs.toArray, _, hk, rfl, rfl, rfl, by rw [List.size_toArray, lv]; exact hl, by simpa using rv⟩
    have na : H a = none := off a fun q => by
      obtain ⟨p, hp, e⟩ := List.mem_map.mp q
      exact aT p hp e
    refine law_coreT (H := H) KX g1 g2 g3 g4 g5 T ha hr F hbind (fun p hp => on _ (mem p hp)) (fun b => ?_) (hsp H (fun p hp => on _ (mem p hp)) sq) (fun b u y => ?_) (fun b y => ?_) fun y => absurd na y
    · by_cases hb : b ∈ cs.map (·.2)
      · exact .inr (.inl hb)
      · exact .inl (off b hb)
    · by_cases hb : b ∈ cs.map (·.2)
      · rw [on b hb] at y
        cases y
        exact laid b hb
      · rw [off b hb] at y
        cases y
    · by_cases hb : b ∈ cs.map (·.2)
      · exact .inr hb
      · exact absurd (off b hb) y
  | none =>
    let H : Hp := fun b => if b = a then some (.frz { cls := .type "list", data := .seq vs.toArray } (.lst (ns.map V.int))) else if b ∈ cs.map (·.2) then some (.tbl #[]) else none
    have at_a : H a = some (.frz { cls := .type "list", data := .seq vs.toArray } (.lst (ns.map V.int))) := if_pos rfl
    have on : ∀ p ∈ cs, H p.2 = some (.tbl #[]) := fun p hp => (if_neg (aT p hp)).trans (if_pos (mem p hp))
    have onB : ∀ b, b ∈ cs.map (·.2) → H b = some (.tbl #[]) := fun b hb => by
      obtain ⟨p, hp, rfl⟩ := List.mem_map.mp hb
      exact on p hp
    have off : ∀ b, b ≠ a → b ∉ cs.map (·.2) → H b = none := fun b h1 h2 => (if_neg h1).trans (if_neg h2)
    refine law_coreT (H := H) KX g1 g2 g3 g4 g5 T ha hr F hbind on (fun b => ?_) (hsp H on (.inl (.inr ⟨_, at_a⟩))) (fun b u y => ?_) (fun b y => ?_) fun _ => hk
    · by_cases hb : b = a
      · subst hb
        exact .inr (.inr ⟨_, _, at_a⟩)
      · by_cases hb2 : b ∈ cs.map (·.2)
        · exact .inr (.inl hb2)
        · exact .inl (off b hb hb2)
    · by_cases hb : b = a
      · subst hb
        rw [at_a] at y
        cases y
        refine ⟨ha, ?_, vs, _, rv, ha⟩
        rw [List.length_map]
        exact hl
      · by_cases hb2 : b ∈ cs.map (·.2)
        · rw [onB b hb2] at y
          cases y
          exact laid b hb2
        · rw [off b hb hb2] at y
          cases y
    · by_cases hb : b = a
      · exact .inl hb
      · by_cases hb2 : b ∈ cs.map (·.2)
        · exact .inr hb2
        · exact absurd (off b hb hb2) y
end
/-- the end over a head by facts and tables -/
theorem walk_GT {l : PySem.W.OpenLaw} {n k : Nat} {q : Program} {loose : List Str} {XP : (Str → Option Value) → Heap → Prop} {YP : World → Heap → Prop} {d : DefRec} {x : Str}
    (hn : l.most = some n) (hn2 : n ≤ sizeLine) (hdf : d.params.defaults = []) (hr : Room k callerA)
    (F : ∀ (w : World) (mg : Str → Option Value) (fa : Addr) (h : Heap), YP w h → h.Ns mainGlobals mg → mg d.name = some (.ref fa) →
      ∃ (K : PySem.W.Frag) (fd : FuncData) (sp : Sp) (cs : List (Addr × Addr)), K.In h ∧ ((∀ p ∈ cs, h.get? p.2 = some { cls := .none, data := .fields #[] }) ∧ (∀ p ∈ cs, K.lookup p.2 = none) ∧ ∀ p ∈ cs, PySem.W.CodeHd h p.1 p.2) ∧ (∀ (s : Shared) (u : Value), BindsTo s fd ⟨[u], []⟩ [(x, u)]) ∧
        (∀ (H : Hp) (a : Addr) (ns : List Int), ns.length ≤ n → (∀ y ∈ ns, Builtin.Int.intBits y ≤ 1048576) → (∀ p ∈ cs, H p.2 = some (.tbl #[])) → SqL K H a (ns.map V.int) → sp [.ref a] H (fun v _ => v = .bl true) fun _ _ _ => False) ∧
        ∀ base : Heap, K.In base → base.Ns mainGlobals mg → (∀ p ∈ cs, LamX.TabB base mg p.1 p.2) → FnG l.prog w K mg base k fa fd [x] sp) :
    PySem.W.WalkO q loose XP YP l.row.toRowW d [] (fun f vs => PySem.call f vs) := by
  refine Att.attach_callB hn hdf fun w s₀ z mg mb fa o pm cd doc a vs ns G Y ho hd hcd hmg hobj hints hlen hbits hg => ?_
  obtain ⟨K, fd, sp, cs, KX, ⟨t1, t2, t3⟩, hb, hsp, hF⟩ := F w mg fa _ Y G.T.g hmg
  exact law_callT KX G.T.g G.T.b G.T.builtins G.T.nolimit hg ⟨t1, t2, t3, G.T.bmain⟩ hobj hints (Nat.le_trans hlen hn2) hr hF hb fun H hH hS => hsp H a ns hlen hbits hH hS
end Gd
set_option Elab.async false
set_option linter.all false
set_option maxRecDepth 100000
set_option maxHeartbeats 0
namespace K5
open PySem PySem.Spec PyProof.Rows L2 Gd Rl
/-! ### the head -/
def dd (x : Str) (st : Stmt) : He.DefD := ⟨(x, none), x, x, defArgs st, defBody st, defScope st, [], []⟩
def dm (x q : Str) (st : Stmt) : He.DefD := ⟨("Program", some x), x, q, defArgs st, defBody st, defScope st, [], []⟩
def fn : List He.DefD := [dd "is_integer" (Pg.top 19), dd "is_name" (Pg.top 21), dd "are_integers" (Pg.top 22), dd "is_form" (Pg.top 23), dd "are_forms" (Pg.top 24), dd "is_numeral" (Pg.top 25), dd "_check_names" (Pg.top 39), dd "_check_sayings" (Pg.top 40), dd "_check_branches" (Pg.top 41), dd "_is_saying" (Pg.top 42), dd "_is_branch" (Pg.top 43), dd "_places_of" (Pg.top 44), dd "_text_of" (Pg.top 45), dd "_words_of" (Pg.top 46), dd "_parts_of" (Pg.top 47), dd "_form_of" (Pg.top 48), dd "is_index" (Pg.top 20), dd "weighed" (Pg.top 26), dd "value_at" (Pg.top 27), dd "fits" (Pg.top 55), dd "state_behind" (Pg.top 56), dd "_is_tuple" (Pg.top 60), dd "_is_state" (Pg.top 61), dd "_are_branches" (Pg.top 77), dd "_check_endless" (Pg.top 78), dd "_state_after" (Pg.top 79), dd "accepts" (Pg.top 82), dd "_law_words" (Pg.top 87), dd "_law_text" (Pg.top 88), dd "_law_well" (Pg.top 84), dd "_law_draw" (Pg.top 85), dd "_law_pick" (Pg.top 86), dd "_law_small" (Pg.top 89), dd "_law_shape" (Pg.top 90), dd "_law_turns" (Pg.top 91), dd "_law_step" (Pg.top 92), dd "_law_behind_all" (Pg.top 93), dd "_law_right" (Pg.top 94), dd "law" (Pg.top 95), dm "__init__" "Program.__init__" (inClass (Pg.top 37) 0), dm "__str__" "Program.__str__" (inClass (Pg.top 37) 11), dm "__len__" "Program.__len__" (inClass (Pg.top 37) 10)]
def fa : List He.Fa := [.glo "is_integer", .glo "is_name", .glo "are_integers", .glo "is_form", .glo "are_forms", .glo "is_numeral", .glo "_check_names", .glo "_check_sayings", .glo "_check_branches", .glo "_is_saying", .glo "_is_branch", .glo "_places_of", .glo "_text_of", .glo "_words_of", .glo "_parts_of", .glo "_form_of", .glo "is_index", .glo "weighed", .glo "value_at", .glo "fits", .glo "state_behind", .glo "_is_tuple", .glo "_is_state", .glo "_are_branches", .glo "_check_endless", .glo "_state_after", .glo "accepts", .glo "_law_words", .glo "_law_text", .glo "_law_well", .glo "_law_draw", .glo "_law_pick", .glo "_law_small", .glo "_law_shape", .glo "_law_turns", .glo "_law_step", .glo "_law_behind_all", .glo "_law_right", .glo "law", .glo "Program", .free "len", .free "divmod", .free "int", .free "abs", .free "isinstance", .free "bool", .free "str", .free "tuple", .free "all", .free "enumerate", .free "range", .free "repr", .free "max", .free "min", .free "sum", .free "zip", .free "list", .int "LONGEST_NAME" 8, .int "MOST_NUMBER" 1000000, .int "MOST_VARIABLES" 3, .int "MOST_PLACES" 3, .int "MOST_BRANCHES" 5, .int "MOST_TESTS" 3, .int "MOST_SAYINGS" 3, .str "LETTERS" Pg.letS, .str "FIGURES" Pg.figS, .cls "Program", .noat "Program" "_names", .noat "Program" "_sayings", .noat "Program" "_branches", .noat "Program" "_places", .noat "Program" "_text", .meth "Program" "__str__", .meth "Program" "__len__", .mkr "Program", .glo "CHECKS"]
/-- getters, and read: where, name, qualified name, text -/
def cP (K : PySem.W.Frag) : Addr := He.ga K "Program"
def gAt (f : Str) (K : PySem.W.Frag) : Addr := Hx.firstR K (He.ma K (cP K) f) "property"
def rAt (K : PySem.W.Frag) : Addr := Hx.firstR K (Hx.cmAt K (cP K) "read") "classmethod"
def gl : List ((PySem.W.Frag → Addr) × Str × Str × Stmt) := [(gAt "names", "names", "Program.names", (inClass (Pg.top 37) 2)), (gAt "branches", "branches", "Program.branches", (inClass (Pg.top 37) 4)), (gAt "places", "places", "Program.places", (inClass (Pg.top 37) 5)), (rAt, "read", "Program.read", (inClass (Pg.top 37) 1))]
/-- the written dicts: their keys in order; the functions in them -/
def ts : List He.Tab := [(fun K => He.ga K "CHECKS", ["ranks", "fewest", "none", "endless", "within"])]
def dv : List (Str × Str × Str) := [("CHECKS", "endless", "_check_endless")]
def tf : List He.Defn := []
def exB (K : PySem.W.Frag) : Bool := (["names", "branches", "places"] : List Str).all (fun f => Hx.propB K (cP K) f) && (Hx.cmB K (cP K) "read" && (Hx.readB K (cP K) && ((gl.all fun g => Hx.keptF K (g.1 K) g.2.2.1) && (dv.all fun e => He.eqO (PySem.W.nsIn K (He.ga K e.1) e.2.1) (some (some (.ref (He.ga K e.2.2))))))))
/-- what is come to in n rounds, each address once: what was seen is one number, a sign of it an address -/
def addF (p : Nat × List Addr) (r : Addr) : Nat × List Addr := match Nat.testBit p.1 r with
  | true => p
  | false => (p.1 ||| (1 <<< r), r :: p.2)
def layF (g : Addr → Option Obj) (seen : Nat) (front : List Addr) : Nat × List Addr := front.foldl (fun p a => match g a with
  | some o => (He.refsD o).foldl addF p
  | none => p) (seen, [])
def asF (g : Addr → Option Obj) : Nat → List Addr → Nat → List Addr → List Addr
  | 0, all, _, _ => all
  | n + 1, all, seen, front => match layF g seen front with
    | (s, f) => asF g n (f ++ all) s f
def asK (g : Addr → Option Obj) (n : Nat) : List Addr := cStatics :: asF g n [mainGlobals] (1 <<< mainGlobals) [mainGlobals]
abbrev AlK : Type := (Bool × List He.FnW) × (Bool × (List He.FnW × List (Option (List (Option (Str × Int))))))
def obsK (K : PySem.W.Frag) : AlK := (He.obsD fa fn K, (exB K, (gl.map fun g => Hx.seenF K (g.1 K), ts.map fun t => He.dicW K (t.1 K))))
def valK (w : World) : AlK := (He.valD fn, (true, (gl.map fun g => Hx.saidF g.2.1 g.2.2.1 g.2.2.2, ts.map fun t => some (He.keysIn w.params t.2))))
def SaysK (w : World) (K : PySem.W.Frag) : Prop := obsK K = valK w
def TabsK (h : Heap) (K : PySem.W.Frag) : Prop := ∀ p ∈ tf, PySem.W.codeHdIn K (He.cT K p).1 (He.cT K p).2 = true ∧ K.lookup (He.cT K p).2 = none ∧ h.get? (He.cT K p).2 = some { cls := .none, data := .fields #[] }
def obsKG (g : Addr → Option Obj) : AlK := obsK (He.frT g (asK g 5))
def hk : PySem.W.Hook where
  α := AlK
  obs := fun s => obsKG s.heap.get?
  val := fun w => valK w
  says := fun w h => ∃ K : PySem.W.Frag, K.In h ∧ SaysK w K ∧ TabsK h K
  of := fun _ _ e => ⟨_, He.frT_in, e, fun p hp => nomatch hp⟩
  keeps := fun _ _ _ ⟨K, i, c, t⟩ k => ⟨K, PySem.W.Frag.In.keeps i k, c, fun p hp => nomatch hp⟩
abbrev R : PySem.W.OpenRow := PySem.W.OpenLaw.row PySem.Challenge.rw_fallranks_k45_endless_runs_judged
def ob (s : PySem.W.SharedT) : AlK := obsKG (HandSHeadRun.getT s)
theorem ob_eq (s : PySem.W.SharedT) : ob s = hk.obs s.abs := by
  have e : HandSHeadRun.getT s = s.abs.heap.get? := funext (HandSHeadRun.getT_eq s)
  unfold ob
  rw [e]
  rfl
def names0 : List Str := ["_wall", "WrongValue", "InvalidText", "InvalidIndex", "InvalidNames", "InvalidSayings", "InvalidBranches", "MOST_VARIABLES", "MOST_PLACES", "MOST_BRANCHES", "MOST_TESTS", "MOST_SAYINGS", "MOST_NUMBER", "LONGEST_NAME", "LETTERS", "FIGURES", "is_integer", "is_index", "is_name", "are_integers", "is_form", "are_forms", "is_numeral", "weighed", "value_at", "reach_points", "lowest", "arrows", "_cut", "_leveled"]
def names1 : List Str := ["_cut_arrows", "_are_neighbours", "Program", "check_index", "_check_names", "_check_sayings", "_check_branches", "_is_saying", "_is_branch", "_places_of", "_text_of", "_words_of", "_parts_of", "_form_of", "is_rank", "fall_form", "form_at", "moved", "fits", "state_behind", "_is_amount", "_are_amounts", "_is_tuple", "_is_state", "_summed", "_are_weights", "_shows_dead", "_shows_falling", "_shows_one", "_is_right_paper"]
def names2 : List Str := ["_shows_row", "_is_part", "_is_bar", "_leaves", "_arrives", "_high_ones", "_check_ranks", "_check_fewest", "_check_none", "_are_branches", "_check_endless", "_state_after", "_check_within", "CHECKS", "accepts", "_law_well", "_law_draw", "_law_pick", "_law_words", "_law_text", "_law_small", "_law_shape", "_law_turns", "_law_step", "_law_behind_all", "_law_right"]
def names : List Str := names0 ++ names1 ++ names2
/-- the run of a law with a written dict asks how a thing's own hash is come to -/
theorem runF (w : World) : HandSHeadRun.RunEqI R (PySem.W.view R.prog [0, 95]) hk ob 12000 names (w.withFollow "special-get-raises" false) := by
  unfold HandSHeadRun.RunEqI
  kernel_rfl
theorem runT (w : World) : HandSHeadRun.RunEqI R (PySem.W.view R.prog [0, 95]) hk ob 12000 names (w.withFollow "special-get-raises" true) := by
  unfold HandSHeadRun.RunEqI
  kernel_rfl
theorem runB (w : World) : ∀ b, HandSHeadRun.RunEqI R (PySem.W.view R.prog [0, 95]) hk ob 12000 names (w.withFollow "special-get-raises" b)
  | false => runF w
  | true => runT w
theorem run (w : World) : HandSHeadRun.RunEqI R (PySem.W.view R.prog [0, 95]) hk ob 12000 names w := by
  have h := runB w (w.params.followText "special-get-raises")
  rwa [World.withFollow_self] at h
end K5
set_option Elab.async false
set_option linter.all false
set_option maxRecDepth 100000
set_option maxHeartbeats 8000000
namespace Pg
open PySem PySem.Spec PyProof.Rows L2 Gd Rl
abbrev sSay : Stmt := top 42
abbrev sBr : Stmt := top 43
theorem rp_tup {K : PySem.W.Frag} {H : Hp} {v : V} {ds : List PyData} (h : Rp K H v (.tuple ds)) : ∃ a xs, v = .ref a ∧ SqT K H a xs ∧ DpAll K H xs ds := by
  rcases h with h | ⟨a, kvs, es, _, _, _, e⟩
  · cases h with
    | tup h1 h2 => exact ⟨_, _, rfl, h1, h2⟩
  · cases e
theorem ok_tup {ds : List PyData} (h : okD (.tuple ds) = true) : ds.length ≤ 1000 ∧ okAll ds = true := by
  rw [okD, Bool.and_eq_true] at h
  exact ⟨of_decide_eq_true h.1, h.2⟩
theorem all_getP (l : List PyData) (p : PyData → Bool) : ((List.range l.length).map fun i => p (l.getD i .none)).all id = l.all p := by
  have e : ((List.range l.length).map fun i => p (l.getD i .none)) = l.map p := by
    apply List.ext_getElem
    · simp
    · intro i h1 h2
      simp only [List.length_map, List.length_range] at h1
      simp [List.getD_eq_getElem?_getD, List.getElem?_eq_getElem h1]
  rw [e, List.all_map]
  rfl
theorem iteNE {c A B : Prop} [Decidable c] (hc : ¬ c) (h : A) : if (!decide c) = true then A else B := by
  rw [decide_eq_false hc]
  exact iteT h
section
variable {P : Program} {w : World} {K : PySem.W.Frag} {mg : Str → Option Value} {base : Heap} {f : Addr} {fd : FuncData}
theorem scInts : FnScope ["value", "many", "number"] ["value", "many"] (defScope sInts) := ⟨rfl, rfl, rfl, by decide +kernel, rfl, by decide +kernel, by decide +kernel⟩
theorem ok_areints {fI : Addr} {dI : FuncData} (F : FnP K "are_integers" sInts f fd) (T : Mo mg) (FI : FnP K "is_integer" sInt fI dI) (gI : mg "is_integer" = some (.ref fI)) : FnOk P w K mg base CX0 2 f fd ["value", "many"] (spJ2 K intsB) := by
  have GI : FnOk P w K mg base CX0 1 fI dI ["value"] (spJ K intB) := ok_int FI T
  have bI : Binds K dI ["value"] [] := FI.bindsN fun _ _ _ _ _ _ us hl => match us, hl with | [_], _ => rfl
  refine F.ok scInts (fun vs H Q E h => ?_) (fun cdv A outer s H vs Q E hr h => ?_)
  · obtain ⟨v, d, m, rfl, _⟩ := h
    rfl
  · obtain ⟨v, d, m, rfl, hd, ho, k⟩ := h
    refine ⟨_, PSs.nox <| pss_one (ps_ret (pe_and (pe_callB (call_isD (T := "tuple")) (by rfl) T.isi boot_isinstance (pa_cons (pv 0) (pa_cons (pe_bltn (v := .ty "tuple") (by rfl) T.tuple (by decide +kernel) rfl) pa_nil)))
      (pe_and (pe_cmpR op_eq (pe_callB call_len (by rfl) T.len PySem.boot_len (pa_cons (pv 0) pa_nil)) (pv 1) (nomark _))
      (pe_one (pe_callB (cr_all rfl) (by rfl) T.all (by decide +kernel) (pa_cons (pe_lc (own := [("number", 2)]) (g := gName 2) (tt := tYes) rfl scInts.nd (pi_tup (pv 0)) (blkOk_by (N := ["value", "many", "number"]) (sc := defScope sInts) (by decide +kernel)) (fun _ _ _ _ _ => pg_name (i := 2) scInts.nd rfl (Or.inl rfl)) (fun _ _ _ _ _ => pts_nil)
          (fun _ _ _ _ _ => pe_call GI hr (by rfl) gI FI.kp bI .nil pass0 (pa_cons (pv 2) pa_nil))) pa_nil)))))), ?_⟩
    refine ⟨_, rfl, v, d, _, rfl, hd, kit_tuple d, _, rfl, ?_⟩
    have k0 := k H (Same.refl H)
    cases d with
    | tuple ds =>
      obtain ⟨a, xs, rfl, hs, ha⟩ := rp_tup hd
      obtain ⟨hl, hk⟩ := ok_tup ho
      have lx := dp_len ha
      refine ⟨_, rfl, _, xs.length, rfl, .inr ⟨_, hs, rfl⟩, _, rfl, rfl, _, rfl, ?_⟩
      by_cases h1 : ds.length = m
      · have hB : intsB m (.tuple ds) = ds.all intB := by
          show (decide (ds.length = m) && ds.all intB) = _
          rw [decide_eq_true h1, Bool.true_and]
        rw [show decide (V.int ((xs.length : Nat) : Int) = V.int (m : Int)) = true from decide_eq_true (by rw [lx, h1])]
        refine ⟨_, rfl, a, rfl, ⟨_, hs⟩, lcR (walk_tup (xs := xs)) (n1 := by omega) (fun H' s' => Same.seqT s' hs) (fun i y _ => y = .bl (intB (ds.getD i .none))) (fun _ _ _ _ _ e => e) ?_ ?_⟩
        · rintro D acc i x Ha Hb K2 hi s nD hD ⟨rfl, ex⟩ kk
          obtain ⟨d, ed, hx⟩ := dp_at ha ex
          have eg : ds.getD i .none = d := by
            rw [List.getD_eq_getElem?_getD, ed]
            rfl
          exact ⟨rfl, _, rfl, x, d, rfl, .inl (dp_same s d hx), ok_at hk ed, fun Hc sc => kk _ _ sc (by rw [eg])⟩
        · rintro D Hb ys nw hlen he
          have ey : ys = ((List.range ds.length).map fun i => intB (ds.getD i .none)).map V.bl := by
            rw [List.map_map]
            exact list_of (by rw [hlen, lx]) he
          refine ⟨D, _, rfl, by rw [← ey]; exact SqL.of nw.2.1, ?_⟩
          rw [all_getP, ← hB]
          exact k Hb nw.2.2
      · have hB : intsB m (.tuple ds) = false := by
          show (decide (ds.length = m) && ds.all intB) = _
          rw [decide_eq_false h1, Bool.false_and]
        rw [show decide (V.int ((xs.length : Nat) : Int) = V.int (m : Int)) = false from decide_eq_false fun e => h1 (by
          have := V.int.inj e
          omega)]
        rw [hB] at k0
        exact k0
    | int i => exact k0
    | bool b => exact k0
    | none => exact k0
    | list ds => exact k0
    | str z => exact k0
    | dict ds => exact k0
/-- where are_integers stands -/
def Ints (K : PySem.W.Frag) (mg : Str → Option Value) : Prop := ∃ fM dM, FnP K "are_integers" sInts fM dM ∧ mg "are_integers" = some (.ref fM)
theorem numB_int {d : PyData} (h : numB d = true) : intB d = true := by
  cases d with
  | int i => rfl
  | bool b => cases h
  | none => cases h
  | str z => cases h
  | list es => cases h
  | tuple es => cases h
  | dict es => cases h
theorem form_ints {m : Nat} {d : PyData} (h : intsB (m + 1) d = false) : formB m d = false := by
  cases d with
  | tuple ds =>
    have h2 : (decide (ds.length = m + 1) && ds.all intB) = false := h
    show (decide (ds.length = m + 1) && ds.all numB) = false
    cases e : decide (ds.length = m + 1) with
    | false => rfl
    | true =>
      rw [e, Bool.true_and] at h2
      rw [Bool.true_and]
      cases e3 : ds.all numB with
      | false => rfl
      | true =>
        have : ds.all intB = true := List.all_eq_true.mpr fun x hx => numB_int (List.all_eq_true.mp e3 x hx)
        rw [h2] at this
        cases this
  | int i => rfl
  | bool b => rfl
  | none => rfl
  | str z => rfl
  | list es => rfl
  | dict es => rfl
theorem ints_tup {m : Nat} {d : PyData} (h : intsB m d = true) : ∃ ds, d = .tuple ds ∧ ds.length = m ∧ ∀ x ∈ ds, intB x = true := by
  cases d with
  | tuple ds =>
    have h2 : (decide (ds.length = m) && ds.all intB) = true := h
    obtain ⟨e1, e2⟩ := Bool.and_eq_true_iff.mp h2
    exact ⟨ds, rfl, of_decide_eq_true e1, List.all_eq_true.mp e2⟩
  | int i => cases h
  | bool b => cases h
  | none => cases h
  | str z => cases h
  | list es => cases h
  | dict es => cases h
theorem scForm : FnScope ["value", "many", "number"] ["value", "many"] (defScope sForm) := ⟨rfl, rfl, rfl, by decide +kernel, rfl, by decide +kernel, by decide +kernel⟩
theorem ok_form {fI : Addr} {dI : FuncData} (F : FnP K "is_form" sForm f fd) (T : Mo mg) (FI : FnP K "is_integer" sInt fI dI) (gI : mg "is_integer" = some (.ref fI)) (Z : Ints K mg) : FnOk P w K mg base CX0 3 f fd ["value", "many"] (spJ2 K formB) := by
  obtain ⟨fM, dM, FM, gM⟩ := Z
  have GM : FnOk P w K mg base CX0 2 fM dM ["value", "many"] (spJ2 K intsB) := ok_areints FM T FI gI
  have bM : Binds K dM ["value", "many"] [] := FM.bindsN fun _ _ _ _ _ _ us hl => match us, hl with | [_, _], _ => rfl
  obtain ⟨t1, c1⟩ := T.mnum
  refine F.ok scForm (fun vs H Q E h => ?_) (fun cdv A outer s H vs Q E hr h => ?_)
  · obtain ⟨v, d, m, rfl, _⟩ := h
    rfl
  · obtain ⟨v, d, m, rfl, hd, ho, k⟩ := h
    refine ⟨_, PSs.nox <| pss_one (ps_ret (pe_and (pe_call GM hr (by rfl) gM FM.kp bM .nil pass0 (pa_cons (pv 0) (pa_cons (pe_op op_add (pv 1) pe_int) pa_nil)))
      (pe_one (pe_callB (cr_all rfl) (by rfl) T.all (by decide +kernel) (pa_cons (pe_lc (own := [("number", 2)]) (g := gName 2) (tt := tYes) rfl scForm.nd (pi_tup (pv 0)) (blkOk_by (N := ["value", "many", "number"]) (sc := defScope sForm) (by decide +kernel)) (fun _ _ _ _ _ => pg_name (i := 2) scForm.nd rfl (Or.inl rfl)) (fun _ _ _ _ _ => pts_nil)
          (fun _ _ _ _ _ => pe_chain op_le op_le (pe_un un_neg (pe_glob (v := .int 1000000) (by rfl) c1 ⟨_, rfl⟩)) (pv 2) (pe_glob (v := .int 1000000) (by rfl) c1 ⟨_, rfl⟩))) pa_nil))))), ?_⟩
    refine ⟨_, rfl, _, rfl, _, _, rfl, rfl, v, d, m + 1, rfl, hd, ho, fun H1 s1 => ⟨_, rfl, ?_⟩⟩
    cases hi : intsB (m + 1) d with
    | false =>
      have z := k H1 s1
      rw [form_ints hi] at z
      exact z
    | true =>
      obtain ⟨ds, rfl, hlen, hall⟩ := ints_tup hi
      obtain ⟨a, xs, rfl, hs0, ha⟩ := rp_tup hd
      obtain ⟨hl, hk⟩ := ok_tup ho
      have lx := dp_len ha
      have hs := Same.seqT s1 hs0
      have hB : formB m (.tuple ds) = ds.all numB := by
        show (decide (ds.length = m + 1) && ds.all numB) = _
        rw [decide_eq_true hlen, Bool.true_and]
      refine ⟨_, rfl, a, rfl, ⟨_, hs⟩, lcR (walk_tup (xs := xs)) (n1 := by omega) (fun H' s' => Same.seqT s' hs) (fun i y _ => y = .bl (numB (ds.getD i .none))) (fun _ _ _ _ _ e => e) ?_ ?_⟩
      · rintro D acc i x Ha Hb K2 hi s nD hD ⟨rfl, ex⟩ kk
        obtain ⟨d, ed, hx⟩ := dp_at ha ex
        have eg : ds.getD i .none = d := by
          rw [List.getD_eq_getElem?_getD, ed]
          rfl
        have hd1 := hall d (List.mem_of_getElem? ed)
        cases d with
        | int i =>
          cases hx
          refine ⟨rfl, _, rfl, _, rfl, _, _, rfl, rfl, _, rfl, ?_⟩
          by_cases h2 : (-1000000 : Int) ≤ i
          · rw [show decide (-(1000000 : Int) ≤ i) = true from decide_eq_true h2]
            refine iteT ?_
            refine ⟨_, _, rfl, rfl, kk _ _ (Same.refl _) ?_⟩
            rw [eg]
            show V.bl _ = V.bl (decide (-1000000 ≤ i) && decide (i ≤ 1000000))
            rw [decide_eq_true h2, Bool.true_and]
          · rw [show decide (-(1000000 : Int) ≤ i) = false from decide_eq_false h2]
            refine iteF ?_
            refine kk _ _ (Same.refl _) ?_
            rw [eg]
            show V.bl _ = V.bl (decide (-1000000 ≤ i) && decide (i ≤ 1000000))
            rw [decide_eq_false h2, Bool.false_and]
        | bool b => cases hd1
        | none => cases hd1
        | str z => cases hd1
        | list es => cases hd1
        | tuple es => cases hd1
        | dict es => cases hd1
      · rintro D Hb ys nw hlen2 he
        have ey : ys = ((List.range ds.length).map fun i => numB (ds.getD i .none)).map V.bl := by
          rw [List.map_map]
          exact list_of (by rw [hlen2, lx]) he
        refine ⟨D, _, rfl, by rw [← ey]; exact SqL.of nw.2.1, ?_⟩
        rw [all_getP, ← hB]
        exact k Hb (s1.trans nw.2.2)
theorem scForms : FnScope ["value", "many", "form"] ["value", "many"] (defScope sForms) := ⟨rfl, rfl, rfl, by decide +kernel, rfl, by decide +kernel, by decide +kernel⟩
theorem ok_forms {fI fF : Addr} {dI dF : FuncData} (F : FnP K "are_forms" sForms f fd) (T : Mo mg) (FI : FnP K "is_integer" sInt fI dI) (gI : mg "is_integer" = some (.ref fI)) (FF : FnP K "is_form" sForm fF dF) (gF : mg "is_form" = some (.ref fF)) (Z : Ints K mg) : FnOk P w K mg base CX0 4 f fd ["value", "many"] (spJ2 K formsB) := by
  have GF : FnOk P w K mg base CX0 3 fF dF ["value", "many"] (spJ2 K formB) := ok_form FF T FI gI Z
  have bF : Binds K dF ["value", "many"] [] := FF.bindsN fun _ _ _ _ _ _ us hl => match us, hl with | [_, _], _ => rfl
  refine F.ok scForms (fun vs H Q E h => ?_) (fun cdv A outer s H vs Q E hr h => ?_)
  · obtain ⟨v, d, m, rfl, _⟩ := h
    rfl
  · obtain ⟨v, d, m, rfl, hd, ho, k⟩ := h
    refine ⟨_, PSs.nox <| pss_one (ps_ret (pe_and (pe_callB (call_isD (T := "tuple")) (by rfl) T.isi boot_isinstance (pa_cons (pv 0) (pa_cons (pe_bltn (v := .ty "tuple") (by rfl) T.tuple (by decide +kernel) rfl) pa_nil)))
      (pe_one (pe_callB (cr_all rfl) (by rfl) T.all (by decide +kernel) (pa_cons (pe_lc (own := [("form", 2)]) (g := gName 2) (tt := tYes) rfl scForms.nd (pi_tup (pv 0)) (blkOk_by (N := ["value", "many", "form"]) (sc := defScope sForms) (by decide +kernel)) (fun _ _ _ _ _ => pg_name (i := 2) scForms.nd rfl (Or.inl rfl)) (fun _ _ _ _ _ => pts_nil)
          (fun _ _ _ _ _ => pe_call GF hr (by rfl) gF FF.kp bF .nil pass0 (pa_cons (pv 2) (pa_cons (pv 1) pa_nil)))) pa_nil))))), ?_⟩
    refine ⟨_, rfl, v, d, _, rfl, hd, kit_tuple d, _, rfl, ?_⟩
    have k0 := k H (Same.refl H)
    cases d with
    | tuple ds =>
      obtain ⟨a, xs, rfl, hs, ha⟩ := rp_tup hd
      obtain ⟨hl, hk⟩ := ok_tup ho
      have lx := dp_len ha
      refine ⟨_, rfl, a, rfl, ⟨_, hs⟩, lcR (walk_tup (xs := xs)) (n1 := by omega) (fun H' s' => Same.seqT s' hs) (fun i y _ => y = .bl (formB m (ds.getD i .none))) (fun _ _ _ _ _ e => e) ?_ ?_⟩
      · rintro D acc i x Ha Hb K2 hi s nD hD ⟨rfl, ex⟩ kk
        obtain ⟨d, ed, hx⟩ := dp_at ha ex
        have eg : ds.getD i .none = d := by
          rw [List.getD_eq_getElem?_getD, ed]
          rfl
        exact ⟨rfl, _, rfl, _, rfl, x, d, m, rfl, .inl (dp_same s d hx), ok_at hk ed, fun Hc sc => kk _ _ sc (by rw [eg])⟩
      · rintro D Hb ys nw hlen he
        have ey : ys = ((List.range ds.length).map fun i => formB m (ds.getD i .none)).map V.bl := by
          rw [List.map_map]
          exact list_of (by rw [hlen, lx]) he
        refine ⟨D, _, rfl, by rw [← ey]; exact SqL.of nw.2.1, ?_⟩
        rw [all_getP]
        exact k Hb nw.2.2
    | int i => exact k0
    | bool b => exact k0
    | none => exact k0
    | list ds => exact k0
    | str z => exact k0
    | dict ds => exact k0
/-! ### where the judges stand -/
structure Js (K : PySem.W.Frag) (mg : Str → Option Value) (fI fN fF fS : Addr) (dI dN dF dS : FuncData) : Prop where
  i : FnP K "is_integer" sInt fI dI
  n : FnP K "is_name" sName fN dN
  f : FnP K "is_form" sForm fF dF
  s : FnP K "are_forms" sForms fS dS
  gi : mg "is_integer" = some (.ref fI)
  gn : mg "is_name" = some (.ref fN)
  gf : mg "is_form" = some (.ref fF)
  gs : mg "are_forms" = some (.ref fS)
  z : Ints K mg
theorem scSay : FnScope ["value", "many"] ["value", "many"] (defScope sSay) := ⟨rfl, rfl, rfl, by decide +kernel, rfl, by decide +kernel, by decide +kernel⟩
theorem sayB_len {m : Nat} : ∀ {ds : List PyData}, ds.length ≠ 2 → sayB m (.tuple ds) = false
  | [], _ => rfl
  | [_], _ => rfl
  | [_, _], h => absurd rfl h
  | _ :: _ :: _ :: _, _ => rfl
theorem ok_say {fI fN fF fS : Addr} {dI dN dF dS : FuncData} (F : FnP K "_is_saying" sSay f fd) (T : Mo mg) (J : Js K mg fI fN fF fS dI dN dF dS) : FnOk P w K mg base CX0 4 f fd ["value", "many"] (spJ2 K sayB) := by
  have GN : FnOk P w K mg base CX0 1 fN dN ["value"] (spJ K nameB) := ok_name J.n T
  have GF : FnOk P w K mg base CX0 3 fF dF ["value", "many"] (spJ2 K formB) := ok_form J.f T J.i J.gi J.z
  have bN : Binds K dN ["value"] [] := J.n.bindsN fun _ _ _ _ _ _ us hl => match us, hl with | [_], _ => rfl
  have bF : Binds K dF ["value", "many"] [] := J.f.bindsN fun _ _ _ _ _ _ us hl => match us, hl with | [_, _], _ => rfl
  refine F.ok scSay (fun vs H Q E h => ?_) (fun cdv A outer s H vs Q E hr h => ?_)
  · obtain ⟨v, d, m, rfl, _⟩ := h
    rfl
  · obtain ⟨v, d, m, rfl, hd, ho, k⟩ := h
    have hr1 := hr.mono (show 1 ≤ 3 by decide)
    refine ⟨_, PSs.nox <| pss_one (ps_ret (pe_and (pe_callB (call_isD (T := "tuple")) (by rfl) T.isi boot_isinstance (pa_cons (pv 0) (pa_cons (pe_bltn (v := .ty "tuple") (by rfl) T.tuple (by decide +kernel) rfl) pa_nil)))
      (pe_and (pe_cmpR op_eq (pe_callB call_len (by rfl) T.len PySem.boot_len (pa_cons (pv 0) pa_nil)) pe_int (nomark _))
      (pe_and (pe_call GN hr1 (by rfl) J.gn J.n.kp bN .nil pass0 (pa_cons (pe_ix ix_tup (pv 0) pe_int (fun _ _ => rfl)) pa_nil))
      (pe_one (pe_call GF hr (by rfl) J.gf J.f.kp bF .nil pass0 (pa_cons (pe_ix ix_tup (pv 0) pe_int (fun _ _ => rfl)) (pa_cons (pv 1) pa_nil)))))))), ?_⟩
    refine ⟨_, rfl, v, d, _, rfl, hd, kit_tuple d, _, rfl, ?_⟩
    have k0 := k H (Same.refl H)
    cases d with
    | tuple ds =>
      obtain ⟨a, xs, rfl, hs, ha⟩ := rp_tup hd
      obtain ⟨hl, hk⟩ := ok_tup ho
      have lx := dp_len ha
      refine ⟨_, rfl, _, xs.length, rfl, .inr ⟨_, hs, rfl⟩, rfl, _, rfl, ?_⟩
      by_cases h2 : ds.length = 2
      · match ds, h2, ha, hk with
        | [p, g], _, ha, hk =>
          cases ha with
          | cons hp ha =>
            cases ha with
            | cons hg ha =>
              cases ha
              rename_i v0 v1
              have k1 : okD p = true := ok_at hk (i := 0) rfl
              have k2 : okD g = true := ok_at hk (i := 1) rfl
              refine ⟨_, rfl, a, _, 0, v0, rfl, rfl, hs, rfl, v0, p, rfl, .inl hp, k1, fun H1 s1 => ⟨_, rfl, ?_⟩⟩
              have eB : sayB m (.tuple [p, g]) = (nameB p && formB m g) := rfl
              cases hn : nameB p with
              | false =>
                rw [hn, Bool.false_and] at eB
                have z := k H1 s1
                rw [eB] at z
                exact z
              | true =>
                rw [hn, Bool.true_and] at eB
                refine ⟨_, rfl, a, _, 1, v1, rfl, rfl, Same.seqT s1 hs, rfl, _, rfl, v1, g, m, rfl, .inl (dp_same s1 g hg), k2, fun H2 s2 => ?_⟩
                have z := k H2 (s1.trans s2)
                rw [eB] at z
                exact z
      · rw [show decide (V.int ((xs.length : Nat) : Int) = V.int 2) = false from decide_eq_false fun e => h2 (by
          have := V.int.inj e
          omega)]
        rw [sayB_len h2] at k0
        exact k0
    | int i => exact k0
    | bool b => exact k0
    | none => exact k0
    | list ds => exact k0
    | str z => exact k0
    | dict ds => exact k0
theorem scBr : FnScope ["value", "many", "source", "target", "tests", "changes"] ["value", "many"] (defScope sBr) := ⟨rfl, rfl, rfl, by decide +kernel, rfl, by decide +kernel, by decide +kernel⟩
theorem brB_len {m : Nat} : ∀ {ds : List PyData}, ds.length ≠ 4 → brB m (.tuple ds) = false
  | [], _ => rfl
  | [_], _ => rfl
  | [_, _], _ => rfl
  | [_, _, _], _ => rfl
  | [_, _, _, _], h => absurd rfl h
  | _ :: _ :: _ :: _ :: _ :: _, _ => rfl
theorem forms_tup {m : Nat} : ∀ {d : PyData}, formsB m d = true → ∃ ds, d = .tuple ds
  | .tuple ds, _ => ⟨ds, rfl⟩
  | .none, h => by cases h
  | .bool _, h => by cases h
  | .int _, h => by cases h
  | .str _, h => by cases h
  | .list _, h => by cases h
  | .dict _, h => by cases h
theorem ok_br {fI fN fF fS : Addr} {dI dN dF dS : FuncData} (F : FnP K "_is_branch" sBr f fd) (T : Mo mg) (J : Js K mg fI fN fF fS dI dN dF dS) : FnOk P w K mg base CX0 5 f fd ["value", "many"] (spJ2 K brB) := by
  have GN : FnOk P w K mg base CX0 1 fN dN ["value"] (spJ K nameB) := ok_name J.n T
  have GS : FnOk P w K mg base CX0 4 fS dS ["value", "many"] (spJ2 K formsB) := ok_forms J.s T J.i J.gi J.f J.gf J.z
  have bN : Binds K dN ["value"] [] := J.n.bindsN fun _ _ _ _ _ _ us hl => match us, hl with | [_], _ => rfl
  have bS : Binds K dS ["value", "many"] [] := J.s.bindsN fun _ _ _ _ _ _ us hl => match us, hl with | [_, _], _ => rfl
  obtain ⟨t1, c1⟩ := T.mtes
  refine F.ok scBr (fun vs H Q E h => ?_) (fun cdv A outer s H vs Q E hr h => ?_)
  · obtain ⟨v, d, m, rfl, _⟩ := h
    rfl
  · obtain ⟨v, d, m, rfl, hd, ho, k⟩ := h
    have hr1 := hr.mono (show 1 ≤ 4 by decide)
    refine ⟨_, PSs.nox <| pss_cons (ps_if (PW.pt (pw_or (pt_not (pt_val (pe_callB (call_isD (T := "tuple")) (by rfl) T.isi boot_isinstance (pa_cons (pv 0) (pa_cons (pe_bltn (v := .ty "tuple") (by rfl) T.tuple (by decide +kernel) rfl) pa_nil)))))
        (pw_or1 (pt_cmpR op_ne (pe_callB call_len (by rfl) T.len PySem.boot_len (pa_cons (pv 0) pa_nil)) pe_int (nomark _))))) (pss_one (ps_ret pe_bl)) pss_nil)
      <| pss_cons (ps_asg (pv 0) (pg_tup (by rfl) (pgs_cons (pg_name (i := 2) scBr.nd rfl (.inl rfl)) (pgs_cons (pg_name (i := 3) scBr.nd rfl (.inl rfl)) (pgs_cons (pg_name (i := 4) scBr.nd rfl (.inl rfl)) (pgs_cons (pg_name (i := 5) scBr.nd rfl (.inl rfl)) pgs_nil))))))
      <| pss_cons (ps_if (PW.pt (pw_or (pt_not (pt_val (pe_call GN hr1 (by rfl) J.gn J.n.kp bN .nil pass0 (pa_cons (pv 2) pa_nil)))) (pw_or1 (pt_not (pt_val (pe_call GN hr1 (by rfl) J.gn J.n.kp bN .nil pass0 (pa_cons (pv 3) pa_nil))))))) (pss_one (ps_ret pe_bl)) pss_nil)
      <| pss_cons (ps_if (PW.pt (pw_or (pt_not (pt_val (pe_call GS hr (by rfl) J.gs J.s.kp bS .nil pass0 (pa_cons (pv 4) (pa_cons (pv 1) pa_nil))))) (pw_or1 (pt_cmpR op_gt (pe_callB call_len (by rfl) T.len PySem.boot_len (pa_cons (pv 4) pa_nil)) (pe_glob (v := .int 3) (by rfl) c1 ⟨_, rfl⟩) (nomark _))))) (pss_one (ps_ret pe_bl)) pss_nil)
      <| pss_one (ps_ret (pe_and (pe_call GS hr (by rfl) J.gs J.s.kp bS .nil pass0 (pa_cons (pv 5) (pa_cons (pv 1) pa_nil))) (pe_one (pe_cmpR op_eq (pe_callB call_len (by rfl) T.len PySem.boot_len (pa_cons (pv 5) pa_nil)) (pv 1) (nomark _))))), ?_⟩
    refine ⟨_, rfl, v, d, _, rfl, hd, kit_tuple d, _, rfl, ?_⟩
    have k0 := k H (Same.refl H)
    cases d with
    | tuple ds =>
      obtain ⟨a, xs, rfl, hs, ha⟩ := rp_tup hd
      obtain ⟨hl, hk⟩ := ok_tup ho
      have lx := dp_len ha
      refine iteF ?_
      refine ⟨_, rfl, _, xs.length, rfl, .inr ⟨_, hs, rfl⟩, rfl, _, rfl, ?_⟩
      by_cases h4 : ds.length = 4
      · refine iteNS (by rw [lx, h4]; rfl) ?_
        match ds, h4, ha, hk, hl, lx with
        | [p, q, ts, cs], _, ha, hk, hl, lx =>
          cases ha with
          | @cons v0 _ _ _ a0 ha =>
          cases ha with
          | @cons v1 _ _ _ a1 ha =>
          cases ha with
          | @cons v2 _ _ _ a2 ha =>
          cases ha with
          | @cons v3 _ _ _ a3 ha =>
          cases ha
          have o0 : okD p = true := ok_at hk (i := 0) rfl
          have o1 : okD q = true := ok_at hk (i := 1) rfl
          have o2 : okD ts = true := ok_at hk (i := 2) rfl
          have o3 : okD cs = true := ok_at hk (i := 3) rfl
          have eB : brB m (.tuple [p, q, ts, cs]) = (nameB p && (nameB q && ((formsB m ts && decide (lenD ts ≤ 3)) && (formsB m cs && decide (lenD cs = m))))) := rfl
          refine ⟨_, rfl, a, _, rfl, hs, rfl, _, _, rfl, _, _, rfl, _, _, rfl, _, _, rfl, rfl, ?_⟩
          refine ⟨_, rfl, v0, p, rfl, .inl a0, o0, fun H1 s1 => ⟨_, rfl, ?_⟩⟩
          cases hp : nameB p with
          | false =>
            rw [hp, Bool.false_and] at eB
            have z := k H1 s1
            rw [eB] at z
            exact iteT (iteT z)
          | true =>
          rw [hp, Bool.true_and] at eB
          refine iteF ?_
          refine ⟨_, rfl, v1, q, rfl, .inl (dp_same s1 q a1), o1, fun H2 s2 => ⟨_, rfl, ?_⟩⟩
          have s12 := s1.trans s2
          cases hq : nameB q with
          | false =>
            rw [hq, Bool.false_and] at eB
            have z := k H2 s12
            rw [eB] at z
            exact iteT z
          | true =>
          rw [hq, Bool.true_and] at eB
          refine iteF ?_
          refine ⟨_, rfl, _, rfl, v2, ts, m, rfl, .inl (dp_same s12 ts a2), o2, fun H3 s3 => ⟨_, rfl, ?_⟩⟩
          have s13 := s12.trans s3
          cases ht : formsB m ts with
          | false =>
            rw [ht, Bool.false_and, Bool.false_and] at eB
            have z := k H3 s13
            rw [eB] at z
            exact iteT (iteT z)
          | true =>
          rw [ht, Bool.true_and] at eB
          refine iteF ?_
          obtain ⟨tds, rfl⟩ := forms_tup ht
          obtain ⟨ta, txs, rfl, hts, htd⟩ := rp_tup (.inl (dp_same s13 _ a2))
          have lt := dp_len htd
          refine ⟨_, rfl, _, txs.length, rfl, .inr ⟨_, hts, rfl⟩, _, _, rfl, rfl, _, rfl, ?_⟩
          by_cases h3 : tds.length ≤ 3
          · have eB2 : brB m (.tuple [p, q, .tuple tds, cs]) = (formsB m cs && decide (lenD cs = m)) := by
              rw [eB, show decide (lenD (.tuple tds) ≤ 3) = true from decide_eq_true h3, Bool.true_and]
            rw [show decide ((3 : Int) < ((txs.length : Nat) : Int)) = false from decide_eq_false (by omega)]
            refine iteF ?_
            refine ⟨_, rfl, _, rfl, v3, cs, m, rfl, .inl (dp_same s13 cs a3), o3, fun H4 s4 => ⟨_, rfl, ?_⟩⟩
            have s14 := s13.trans s4
            cases hc : formsB m cs with
            | false =>
              rw [hc, Bool.false_and] at eB2
              have z := k H4 s14
              rw [eB2] at z
              exact z
            | true =>
              rw [hc, Bool.true_and] at eB2
              obtain ⟨cds, rfl⟩ := forms_tup hc
              obtain ⟨ca, cxs, rfl, hcs, hcd⟩ := rp_tup (.inl (dp_same s14 _ a3))
              have lc := dp_len hcd
              refine ⟨_, rfl, _, cxs.length, rfl, .inr ⟨_, hcs, rfl⟩, _, rfl, rfl, ?_⟩
              have e5 : decide (V.int ((cxs.length : Nat) : Int) = V.int (m : Int)) = decide (lenD (.tuple cds) = m) := by
                rw [decide_eq_decide, V.int.injEq]
                show _ ↔ cds.length = m
                omega
              rw [e5, ← eB2]
              exact k H4 s14
          · rw [show decide ((3 : Int) < ((txs.length : Nat) : Int)) = true from decide_eq_true (by omega)]
            have eB2 : brB m (.tuple [p, q, .tuple tds, cs]) = false := by
              rw [eB, show decide (lenD (.tuple tds) ≤ 3) = false from decide_eq_false h3, Bool.false_and]
            have z := k H3 s13
            rw [eB2] at z
            exact iteT z
      · refine iteNE (fun e => h4 ?_) ?_
        · have e2 : ((xs.length : Nat) : Int) = 4 := V.int.inj e
          omega
        · rw [brB_len h4] at k0
          exact k0
    | int i => exact k0
    | bool b => exact k0
    | none => exact k0
    | list ds => exact k0
    | str z => exact k0
    | dict ds => exact k0
end
end Pg
set_option Elab.async false
set_option linter.all false
set_option maxRecDepth 100000
set_option maxHeartbeats 8000000
namespace Te
open PySem PySem.Spec PyProof.Rows L2 Gd Rl
/-! enumerate over what begins as told, here a tuple -/
abbrev ecell (h : Heap) : Obj := ⟨.type "enumerate", none, .fields #[.none, .bool false, .ref h.objs.size, rawInt 0, .none, .none], #[]⟩
theorem enum_new1 {v : Value} {o : Obj} {S : Heap → Prop} (B : Begins v o S) :
    Meets (Builtin.«enumerate.__new__» ⟨[.type "enumerate", v], []⟩) (fun _ R s => S s.heap ∧ R (.ok (.ret (.ref (s.heap.push o).objs.size))) { s with heap := (s.heap.push o).push (ecell s.heap) }) :=
  .of_wp fun prog w A R s h => by
    obtain ⟨hp, g, d, tk, os⟩ := s
    obtain ⟨hS, h⟩ := h
    have sub1 := sub_enumerate
    have it1 : ∀ {A1 : Around} {E1 Q1 : Value → Shared → Prop}, Q1 (.ref hp.objs.size) ⟨hp.push o, g, d, tk, os⟩ → wpAny (model prog w) A1 (pyIter v) Q1 E1 ⟨hp, g, d, tk, os⟩ := fun q => B.iter prog w _ _ ⟨hp, g, d, tk, os⟩ _ hS q
    wp_walk using it1
    refine wpAny_stack_any fun st => wpAny_pure ?_
    split
    · rename_i c _ _ _ _ _
      cases (c == Value.type "enumerate") <;> (wp_walk using it1; exact ⟨_, rfl, h⟩)
    · wp_walk using it1
      exact ⟨_, rfl, h⟩
theorem enum_call1 {prog : Program} {w : World} {A : Around} {E : Value → Shared → Prop} {s : Shared} {v : Value} {o : Obj} {S : Heap → Prop} {Q : Value → Shared → Prop} (B : Begins v o S) (hS : S s.heap)
    (h : ∀ h', IsEnum h' (s.heap.objs.size + 1) s.heap.objs.size 0 .none → h'.get? s.heap.objs.size = some o → (∀ b ob, s.heap.get? b = some ob → h'.get? b = some ob) → Q (.ref (s.heap.objs.size + 1)) { s with heap := h' }) :
    wpAny (model prog w) A (call (.type "enumerate") [v]) Q E s := by
  refine callType_new F.called_enumerate (by decide) (F.typeCall_enumerate_1 _) (F.newCall_enumerate_1 _) (fun obj => F.args_object_init_2 obj _) F.entry_enumerate_new (enum_new1 B) ⟨hS, ?_⟩
  have z1 : (s.heap.push o).objs.size = s.heap.objs.size + 1 := Heap.size_push ..
  show _ ∧ _
  rw [z1]
  have he : IsEnum ((s.heap.push o).push (ecell s.heap)) (s.heap.objs.size + 1) s.heap.objs.size 0 .none := by
    have q := Heap.get?_push_size (s.heap.push o) (o := ecell s.heap) rfl
    rw [z1] at q
    exact q
  exact ⟨⟨_, he, rfl⟩, h _ he (Heap.get?_push_of_some _ (Heap.get?_push_size _ B.free)) fun b ob x => Heap.get?_push_of_some _ (Heap.get?_push_of_some _ x)⟩
/-- the tuple at a as it stands, each item in a new pair behind its index -/
def Iet (K : PySem.W.Frag) (a : Addr) : It :=
  ⟨fun i H => ∃ (xs : List V) (x : V), SqT K H a xs ∧ xs[i]? = some x, fun i H v H' => ∃ T x, v = .ref T ∧ H T = none ∧ H' = upd H T (.tup [.int (i : Nat), x]) ∧ ∀ xs, SqT K H a xs → xs[i]? = some x, fun i H => ∃ xs : List V, SqT K H a xs ∧ xs.length ≤ i⟩
abbrev StE (a e it : Addr) (i : Nat) (h : Heap) : Prop := (∃ old, IsEnum h e it ((i : Nat) : Int) old) ∧ h.IsTupleIter it a i ∧ (e ≠ it ∧ a ≠ it ∧ e ≠ a)
theorem two {b e it : Addr} (h : b ∈ [e, it]) : b = e ∨ b = it := by simpa using h
theorem turn_enumT {P : Program} {w : World} {K : PySem.W.Frag} {elts : List Expr} {kk : Nat} {tpos : Pos} (a e it : Addr) : Turn P w K (.Tuple elts kk tpos) (Iet K a) [e, it] e (StE a e it) where
  mem := by simp
  obj := fun i h st b hb => by
    obtain ⟨⟨old, he⟩, ⟨o, ho, hc, hd⟩, _⟩ := st
    rcases two hb with rfl | rfl
    · exact ⟨_, he, fun v q => nomatch q⟩
    · exact ⟨o, ho, fun v q => by rw [hd] at q; cases q⟩
  keep := fun i h h' st k => let ⟨⟨old, he⟩, hi, hne⟩ := st; ⟨⟨old, k e (by simp) _ he⟩, hi.at fun o q => k it (by simp) o q, hne⟩
  item := by
    intro X hP hw hK hc i pins s σ H E I hf st hg
    subst hP hw hK
    obtain ⟨⟨old, he⟩, hit, n1, n2, n3⟩ := st
    obtain ⟨xs, x, hq, hx⟩ := hg
    obtain ⟨its, rv, p, hz⟩ := I.tuple hq
    obtain ⟨u, hu, ru⟩ := rv.get hx
    have hel : e < s.heap.objs.size := Heap.lt_size he
    have hil : it < s.heap.objs.size := by
      obtain ⟨_, q, _⟩ := hit
      exact Heap.lt_size q
    have D := Draws.tuple (prog := X.prog) (w := X.w) (A := X.A.in1) (I.ok.hd hc) it a n2 its.toArray
    have hlt : i < its.toArray.size := by
      have := (List.getElem?_eq_some_iff.mp hu).1
      simpa using this
    refine wpAny_pyNext_enum_itemD D he ⟨hit, p⟩ hlt n1 (fun hm => ?_) fun y h' tk hy ho hst' hT hsz hk => ?_
    · rcases (by simpa using hm : e = it ∨ e = a) with q | q
      · exact n1 q
      · exact n3 q
    · have ey : y = u := by
        have h1 : its[i]? = some y := by simpa using hy
        rw [hu] at h1
        exact (Option.some.inj h1).symm
      subst ey
      refine ⟨_, rfl, wpAny_letOwnedTupleGo_enum (s := { s with heap := h', toks := tk + 1 }) ho fun h'' he' sb => ?_⟩
      have hT2 : h''.get? s.heap.objs.size = some { cls := .type "tuple", data := .seq #[.int i tk, y] } := (sb.2 _ (Nat.ne_of_gt hel)).trans hT
      have new : ObjOk X.prog X.w (upd H s.heap.objs.size (.tup [.int (i : Nat), x])) h'' s.heap.objs.size (.tup [.int (i : Nat), x]) :=
        ⟨by show 2 ≤ sizeLine; decide, [.int i tk, y], .cons ⟨_, rfl⟩ (.cons ru .nil), ⟨_, hT2, rfl, _, rfl⟩⟩
      have I1 : Inv X pins σ (upd H s.heap.objs.size (.tup [.int (i : Nat), x])) { s with heap := h'', toks := tk + 1 } :=
        I.turnedNew (ch := [e, it]) (fun b ob hb q => (sb.2 b (fun z => hb (by simp [z]))).trans (hk b ob (fun z => hb (by simp [z])) (fun z => hb (by simp [z])) q)) hf (Nat.le_refl _) new
      refine ⟨.ref s.heap.objs.size, _, I1, rfl, ⟨_, x, rfl, I.hok.fresh (Nat.le_refl _), rfl, fun ys hys => by rw [I.tuple_inj hys hq]; exact hx⟩, ⟨⟨y, ?_⟩, hst'.1.at fun o q => (sb.2 it (Ne.symm n1)).trans q, n1, n2, n3⟩, fun b hb => ?_⟩
      · rw [show ((i + 1 : Nat) : Int) = (i : Int) + 1 by omega]
        exact he'
      · have hb' : b < s.heap.objs.size := by
          rcases two hb with rfl | rfl
          · exact hel
          · exact hil
        rw [upd_ne (Nat.ne_of_lt hb')]
        exact (hf b hb).1
  done := by
    intro X hP hw hK hc i pins s σ H E I hf st hg
    subst hP hw hK
    obtain ⟨⟨old, he⟩, hit, n1, n2, n3⟩ := st
    obtain ⟨xs, hq, hx⟩ := hg
    obtain ⟨its, rv, p, hz⟩ := I.tuple hq
    obtain ⟨f0, f1, f2, f3, f4, f5⟩ := hf it (by simp)
    have hl := rv.length
    have hnone : its.toArray[i]? = none := by
      simp
      omega
    have D : Draws X.prog X.w X.A.in1 it [it, a] i (fun _ _ => False) (fun j h => j = i ∧ h.IsTupleIter it a i ∧ h.IsTuple a its.toArray) :=
      { live := fun j h ⟨_, q, _⟩ => let ⟨o, ho, _⟩ := q; ⟨o, ho⟩
        frame := fun j h h' ⟨e1, q1, q2⟩ k => ⟨e1, q1.at fun o e => k it (by simp) o e, q2.at fun o e => k a (by simp) o e⟩
        item := fun j s Q E hj ⟨e1, _⟩ _ => absurd e1 (Nat.ne_of_lt hj)
        done := fun s Q E ⟨_, q1, q2⟩ hE => wpAny_nextOf_tuple_end (I.ok.hd hc) q1 q2 hnone hE }
    exact wpAny_pyNext_enum_endD D he ⟨rfl, hit, p⟩ fun h' eb => ⟨rfl, I.turned (t' := s.toks) (fun b o hb q => eb b o hb q) f0 f1 f3 f4 f5⟩
  self := fun A i s Q E st h => let ⟨⟨_, he⟩, _⟩ := st; wpAny_pyIter_enum he h
def iEnumT (K : PySem.W.Frag) (ta : TA) : TI := fun σ H R => ta σ H fun vs H1 => ∃ a xs, vs = [.ref a] ∧ SqT K H1 a xs ∧ R (Iet K a) H1
theorem pi_enumT {X : Cx} {e : Expr} {ta : TA} {p pos tpos : Pos} {elts : List Expr} {kk : Nat} (hg : Gl X "enumerate") (hm : X.mg "enumerate" = none) (ha : PA X [e] ta) (hs : starEach [e] X.env = [(false, eval e X.env)] := by rfl) :
    PI X (.Tuple elts kk tpos) (.Call (.Name "enumerate" p) [e] [] pos) (iEnumT X.K ta) := by
  refine ⟨fun pins s σ H R I h => ?_⟩
  refine Call_ (ld_blt I hg hm boot_enumerate (PyProof.Rows.callWith_type1 (thn (ha.run pos pins s σ H _ I h) fun us s1 ⟨vs, H1, I1, r1, q1⟩ => ?_) hs rfl))
  obtain ⟨a, xs, ex, hq, q⟩ := q1
  subst ex
  cases r1 with
  | cons r rr =>
    cases rr
    cases r
    obtain ⟨its, rv, p', hz⟩ := I1.tuple hq
    have pt : s1.heap.IsTuple a its.toArray := p'
    have hal : a < s1.heap.objs.size := by
      obtain ⟨_, q, _⟩ := pt
      exact Heap.lt_size q
    refine enum_call1 (begins_tuple a its.toArray) pt fun h' he hit hk => wpAny_pyIter_enum he ?_
    have I2 : Inv X pins σ H1 { s1 with heap := h' } := I1.kept (t' := s1.toks) hk
    refine ⟨s1.heap.objs.size + 1, [s1.heap.objs.size + 1, s1.heap.objs.size], _, _, H1, rfl, I2, turn_enumT a (s1.heap.objs.size + 1) s1.heap.objs.size, ⟨⟨.none, he⟩, ⟨_, hit, rfl, rfl⟩, Nat.succ_ne_self _, Nat.ne_of_lt hal, Nat.ne_of_gt (Nat.lt_succ_of_lt hal)⟩, fun b hb => ?_, q⟩
    have hle : s1.heap.objs.size ≤ b := by
      rcases two hb with rfl | rfl
      · exact Nat.le_add_right _ _
      · exact Nat.le_refl _
    exact I1.fpOk hle (I1.hok.fresh hle)
theorem walk_enumT {K : PySem.W.Frag} {a : Addr} {xs : List V} : Walk (Iet K a) xs.length (fun H => SqT K H a xs) (YPair (fun i => some (.int (i : Nat))) (fun i => xs[i]?)) :=
  ⟨fun i _ hi q => ⟨xs, xs[i], q, by simp [hi]⟩, fun _ q => ⟨xs, q, Nat.le_refl _⟩, fun i H v H' _ q y => let ⟨T, x, h1, h2, h3, h4⟩ := y; ⟨T, .int (i : Nat), x, h1, h2, h3, rfl, h4 xs q⟩⟩
end Te
set_option Elab.async false
set_option linter.all false
set_option maxRecDepth 100000
set_option maxHeartbeats 8000000
namespace Pg
open PySem PySem.Spec PyProof.Rows L2 Gd Rl Te
abbrev sCN : Stmt := top 39
abbrev sCS : Stmt := top 40
abbrev sPl : Stmt := top 44
/-! ### the parts of a program -/
structure Arm where
  src : Str
  tgt : Str
  tests : List (List Int)
  turns : List (List Int)
def fD (f : List Int) : PyData := .tuple (f.map PyData.int)
def sayD (s : Str × List Int) : PyData := .tuple [.str s.1, fD s.2]
def armD (a : Arm) : PyData := .tuple [.str a.src, .str a.tgt, .tuple (a.tests.map fD), .tuple (a.turns.map fD)]
def namesD (ns : List Str) : PyData := .tuple (ns.map PyData.str)
def saysD (ss : List (Str × List Int)) : PyData := .tuple (ss.map sayD)
def armsD (as : List Arm) : PyData := .tuple (as.map armD)
theorem iteDN {c A B : Prop} [Decidable c] (hc : ¬ c) (h : B) : if decide c = true then A else B := by
  rw [decide_eq_false hc]
  exact iteF h
theorem iteDY {c A B : Prop} [Decidable c] (hc : c) (h : A) : if decide c = true then A else B := by
  rw [decide_eq_true hc]
  exact iteT h
theorem iteBF {b : Bool} {A B : Prop} (hb : b = false) (h : B) : if b = true then A else B := by
  rw [hb]
  exact iteF h
theorem iteBT {b : Bool} {A B : Prop} (hb : b = true) (h : A) : if b = true then A else B := by
  rw [hb]
  exact iteT h
theorem notT {b : Bool} (h : b = true) : (!b) = false := by rw [h]; rfl
/-! ### a part of a tuple -/
def rSlTR (K : PySem.W.Frag) : V → Option Int → Option Int → Hp → VK → Prop := fun x lo hi H Q => ∃ a xs, x = .ref a ∧ SqT K H a xs ∧ ∀ p H2, Same H H2 → SqT K H2 p (cutV xs lo hi) → Q (.ref p) H2
theorem cut_whole {xs : List V} {lo hi : Option Int} (h : HT.sIx xs.length 0 lo = 0 ∧ HT.sIx xs.length xs.length hi = xs.length) : cutV xs lo hi = xs := by
  unfold cutV
  rw [h.1, h.2, List.drop_zero, Nat.sub_zero, List.take_length]
theorem cut_take {xs : List V} {i : Nat} (h : i ≤ xs.length) : cutV xs none (some (i : Int)) = xs.take i := by
  unfold cutV
  rw [HT.sIx_none, HT.sIx_nat, List.drop_zero, Nat.sub_zero, Nat.min_eq_left h]
theorem sl_tupR {X : Cx} : SlR X (rSlTR X.K) := by
  intro pins s σ H x v vl vu lo hi sl Q I rx hs pl pu h
  obtain ⟨a, xs, e, hx, q⟩ := h
  refine sl_tupA pins s σ H x v vl vu lo hi sl Q I rx hs pl pu ⟨a, xs, e, hx, fun w => q a H (Same.refl H) (by rw [cut_whole w]; exact hx), fun _ p np => q p _ (same_new np) (SqT.of upd_same)⟩
theorem dp_strs {K : PySem.W.Frag} {H : Hp} : ∀ {ns : List Str} {vs : List V}, DpAll K H vs (ns.map PyData.str) → vs = ns.map V.str
  | [], _, h => by
    cases h
    rfl
  | n :: ns, _, h => by
    cases h with
    | cons a b =>
      cases a
      rw [List.map_cons, dp_strs b]
theorem flat_strs (ns : List Str) : (ns.map V.str).all flatV = true := by
  rw [List.all_map]
  exact List.all_eq_true.mpr fun _ _ => rfl
theorem inV_strs (z : Str) : ∀ ns : List Str, inV (.str z) (ns.map V.str) = ns.contains z
  | [] => rfl
  | n :: ns => by
    have ih := inV_strs z ns
    unfold inV at ih ⊢
    rw [List.map_cons, List.any_cons, ih, List.contains_cons]
    congr 1
    show (n == z) = (z == n)
    rw [Bool.eq_iff_iff]
    simp only [beq_iff_eq]
    exact eq_comm
theorem name_len {z : Str} (h : nameS z = true) : z.length ≤ 1000 := by
  have lz : z.length = z.cps.toList.length := by
    rw [Array.length_toList]
    rfl
  unfold nameS at h
  rw [lz]
  cases e : z.cps.toList with
  | nil => exact Nat.zero_le _
  | cons c r =>
    rw [e] at h
    simp only [Bool.and_eq_true, decide_eq_true_eq] at h
    omega
section
variable {P : Program} {w : World} {K : PySem.W.Frag} {mg : Str → Option Value} {base : Heap} {f : Addr} {fd : FuncData}
/-! ### _check_names -/
structure OkN (ns : List Str) : Prop where
  one : 1 ≤ ns.length
  three : ns.length ≤ 3
  nm : ∀ z ∈ ns, nameS z = true
  nd : ns.Nodup
theorem not_ahead {ns : List Str} (h : ns.Nodup) {i : Nat} {z : Str} (e : ns[i]? = some z) : (ns.take i).contains z = false := by
  rw [Bool.eq_false_iff]
  intro hc
  have hm : z ∈ ns.take i := by simpa using hc
  obtain ⟨j, hj, ej⟩ := List.getElem_of_mem hm
  have hj2 : j < i ∧ j < ns.length := by
    rw [List.length_take] at hj
    omega
  rw [List.getElem_take] at ej
  obtain ⟨hi, ei⟩ := List.getElem?_eq_some_iff.mp e
  exact List.pairwise_iff_getElem.mp h j i hj2.2 hi hj2.1 (by rw [ej, ei])
def spCN (K : PySem.W.Frag) : Sp := fun vs H Q _ => ∃ (v : V) (ns : List Str), vs = [v] ∧ Dp K H v (namesD ns) ∧ OkN ns ∧ ∀ H', Same H H' → Q .non H'
theorem scCN : FnScope ["names", "at", "name"] ["names"] (defScope sCN) := ⟨rfl, rfl, rfl, by decide +kernel, rfl, by decide +kernel, by decide +kernel⟩
theorem ok_cn {fI fN fF fS : Addr} {dI dN dF dS : FuncData} (F : FnP K "_check_names" sCN f fd) (T : Mo mg) (J : Js K mg fI fN fF fS dI dN dF dS) : FnOk P w K mg base CX0 2 f fd ["names"] (spCN K) := by
  have GN : FnOk P w K mg base CX0 1 fN dN ["value"] (spJ K nameB) := ok_name J.n T
  have bN : Binds K dN ["value"] [] := J.n.bindsN fun _ _ _ _ _ _ us hl => match us, hl with | [_], _ => rfl
  obtain ⟨t1, c1⟩ := T.mvar
  refine F.ok scCN (fun vs H Q E h => ?_) (fun cdv A outer s H vs Q E hr h => ?_)
  · obtain ⟨v, d, rfl, _⟩ := h
    rfl
  · obtain ⟨v, ns, rfl, hd, ok, k⟩ := h
    refine ⟨_, PSs.nox <| pss_cons (ps_if (PW.pt (pw_or (pt_not (pt_val (pe_callB (call_isD (T := "tuple")) (by rfl) T.isi boot_isinstance (pa_cons (pv 0) (pa_cons (pe_bltn (v := .ty "tuple") (by rfl) T.tuple (by decide +kernel) rfl) pa_nil)))))
        (pw_or1 (pt_not (pt_truth (pv 0) (by intro _; rfl)))))) (pss_one ps_never) pss_nil)
      <| pss_one (ps_for PassesOwn.never rfl (pi_enumT (by rfl) T.enum (pa_cons (pv 0) pa_nil)) (pg_tup (by rfl) (pgs_cons (pg_name (i := 1) scCN.nd rfl (.inl rfl)) (pgs_cons (pg_name (i := 2) scCN.nd rfl (.inl rfl)) pgs_nil)))
          (pss_one (ps_if (PW.pt (pw_or (pt_cmpR op_ge (pv 1) (pe_glob (v := .int 3) (by rfl) c1 ⟨_, rfl⟩) (nomark _))
            (pw_or (pt_not (pt_val (pe_call GN hr (by rfl) J.gn J.n.kp bN .nil pass0 (pa_cons (pv 2) pa_nil)))) (pw_or1 (pt_cmpR op_in_seq (pv 2) (pe_slice (r := rSlTR K) sl_tupR (pv 0) po_none (po_some (pv 1))) (by rfl)))))) (pss_one ps_never) pss_nil))), ?_⟩
    obtain ⟨a, xs, rfl, hs, ha⟩ := rp_tup (.inl hd)
    have ex := dp_strs ha
    subst ex
    refine ⟨_, rfl, _, _, _, rfl, .inl hd, kit_tuple _, _, rfl, ?_⟩
    refine iteF ?_
    refine ⟨_, rfl, true, .inr (.inl ⟨_, hs, ?_⟩), ?_⟩
    · cases ns with
      | nil => exact absurd ok.one (by decide)
      | cons n ns => rfl
    refine iteF ?_
    refine ⟨_, rfl, a, _, rfl, hs, for_it walk_enumT (fun i σ H' => ∃ x1 x2, σ = [some (.ref a), x1, x2] ∧ Same H H') ⟨_, _, rfl, Same.refl H⟩ (fun i σ H' _ ⟨_, _, _, s⟩ => Same.seqT s hs) ?_ ?_⟩
    · rintro i x σ H1 H2 hi ⟨x1, x2, rfl, s1⟩ ⟨T, y, z, rfl, nT, rfl, ey, ez⟩
      cases ey
      have hi' : i < ns.length := by simpa using hi
      obtain ⟨nm, en, rfl⟩ : ∃ nm, ns[i]? = some nm ∧ z = .str nm := by
        replace ez : (ns.map V.str)[i]? = some z := ez
        rw [List.getElem?_map] at ez
        cases e : ns[i]? with
        | none =>
          rw [e] at ez
          cases ez
        | some nm =>
          rw [e] at ez
          exact ⟨nm, rfl, (Option.some.inj ez).symm⟩
      have hnm : nameS nm = true := ok.nm nm (List.mem_of_getElem? en)
      have s2 : Same H (upd H1 T (.tup [.int (i : Nat), .str nm])) := s1.trans (same_new nT)
      refine ⟨T, _, rfl, SqT.of upd_same, rfl, _, _, rfl, _, _, rfl, rfl, ?_⟩
      refine ⟨_, rfl, _, _, rfl, rfl, _, rfl, ?_⟩
      have h3 := ok.three
      refine iteDN (by omega) ?_
      refine ⟨_, rfl, _, .str nm, rfl, .inl (.str _), decide_eq_true (name_len hnm), fun H3 s3 => ⟨_, rfl, ?_⟩⟩
      refine iteBF (notT hnm) ?_
      have s13 := s2.trans s3
      refine ⟨_, rfl, _, rfl, _, rfl, _, rfl, a, _, rfl, Same.seqT s13 hs, fun p H4 s4 hp => ?_⟩
      rw [cut_take (by rw [List.length_map]; omega), ← List.map_take] at hp
      refine ⟨p, _, rfl, .inr hp, rfl, flat_strs _, _, rfl, ?_⟩
      refine iteBF (by rw [if_neg Bool.false_ne_true, inV_strs]; exact not_ahead ok.nd en) ?_
      exact ⟨_, _, rfl, s13.trans s4⟩
    · rintro σ H' ⟨x1, x2, rfl, s1⟩
      exact k H' s1
/-! ### _check_sayings -/
theorem say_ok {m : Nat} (hm : m ≤ 900) {s : Str × List Int} (h : sayB m (sayD s) = true) : okD (sayD s) = true := by
  have h1 : nameS s.1 = true ∧ formB m (fD s.2) = true := by
    have : (nameS s.1 && formB m (fD s.2)) = true := h
    simpa using this
  have h2 : (decide ((s.2.map PyData.int).length = m + 1) && (s.2.map PyData.int).all numB) = true := h1.2
  have h3 : s.2.length = m + 1 := by
    rw [Bool.and_eq_true] at h2
    have := of_decide_eq_true h2.1
    simpa using this
  have hi : ∀ l : List Int, okAll (l.map PyData.int) = true := fun l => by
    induction l with
    | nil => rfl
    | cons a l ih =>
      rw [List.map_cons, okAll, ih]
      rfl
  have hf : okD (fD s.2) = true := by
    unfold fD
    rw [okD, hi, decide_eq_true (by rw [List.length_map]; omega)]
    rfl
  unfold sayD
  simp only [okD, okAll, hf, decide_eq_true (name_len h1.1)]
  rfl
structure OkS (m : Nat) (ss : List (Str × List Int)) : Prop where
  three : ss.length ≤ 3
  sy : ∀ s ∈ ss, sayB m (sayD s) = true
def spCS (K : PySem.W.Frag) : Sp := fun vs H Q _ => ∃ (v : V) (m : Nat) (ss : List (Str × List Int)), vs = [v, .int m] ∧ m ≤ 900 ∧ Dp K H v (saysD ss) ∧ OkS m ss ∧ ∀ H', Same H H' → Q .non H'
theorem scCS : FnScope ["sayings", "many", "at", "saying"] ["sayings", "many"] (defScope sCS) := ⟨rfl, rfl, rfl, by decide +kernel, rfl, by decide +kernel, by decide +kernel⟩
theorem map_at {α : Type} {K : PySem.W.Frag} {H : Hp} {g : α → PyData} {l : List α} {xs : List V} (ha : DpAll K H xs (l.map g)) {i : Nat} {z : V} (e : xs[i]? = some z) : ∃ s, l[i]? = some s ∧ Dp K H z (g s) := by
  obtain ⟨d, e1, e2⟩ := dp_at ha e
  rw [List.getElem?_map] at e1
  cases h : l[i]? with
  | none =>
    rw [h] at e1
    cases e1
  | some s =>
    rw [h] at e1
    have e3 : g s = d := Option.some.inj e1
    exact ⟨s, rfl, e3 ▸ e2⟩
theorem ok_cs {fI fN fF fS fY : Addr} {dI dN dF dS dY : FuncData} (F : FnP K "_check_sayings" sCS f fd) (T : Mo mg) (J : Js K mg fI fN fF fS dI dN dF dS) (FY : FnP K "_is_saying" sSay fY dY) (gY : mg "_is_saying" = some (.ref fY)) : FnOk P w K mg base CX0 5 f fd ["sayings", "many"] (spCS K) := by
  have GY : FnOk P w K mg base CX0 4 fY dY ["value", "many"] (spJ2 K sayB) := ok_say FY T J
  have bY : Binds K dY ["value", "many"] [] := FY.bindsN fun _ _ _ _ _ _ us hl => match us, hl with | [_, _], _ => rfl
  obtain ⟨t1, c1⟩ := T.msay
  refine F.ok scCS (fun vs H Q E h => ?_) (fun cdv A outer s H vs Q E hr h => ?_)
  · obtain ⟨v, m, ss, rfl, _⟩ := h
    rfl
  · obtain ⟨v, m, ss, rfl, hm, hd, ok, k⟩ := h
    refine ⟨_, PSs.nox <| pss_cons (ps_if (pt_not (pt_val (pe_callB (call_isD (T := "tuple")) (by rfl) T.isi boot_isinstance (pa_cons (pv 0) (pa_cons (pe_bltn (v := .ty "tuple") (by rfl) T.tuple (by decide +kernel) rfl) pa_nil))))) (pss_one ps_never) pss_nil)
      <| pss_one (ps_for PassesOwn.never rfl (pi_enumT (by rfl) T.enum (pa_cons (pv 0) pa_nil)) (pg_tup (by rfl) (pgs_cons (pg_name (i := 2) scCS.nd rfl (.inl rfl)) (pgs_cons (pg_name (i := 3) scCS.nd rfl (.inl rfl)) pgs_nil)))
          (pss_one (ps_if (PW.pt (pw_or (pt_cmpR op_ge (pv 2) (pe_glob (v := .int 3) (by rfl) c1 ⟨_, rfl⟩) (nomark _))
            (pw_or1 (pt_not (pt_val (pe_call GY hr (by rfl) gY FY.kp bY .nil pass0 (pa_cons (pv 3) (pa_cons (pv 1) pa_nil)))))))) (pss_one ps_never) pss_nil))), ?_⟩
    obtain ⟨a, xs, rfl, hs, ha⟩ := rp_tup (.inl hd)
    have lx := dp_len ha
    rw [List.length_map] at lx
    refine ⟨_, rfl, _, _, _, rfl, .inl hd, kit_tuple _, _, rfl, ?_⟩
    refine iteF ?_
    refine ⟨_, rfl, a, _, rfl, hs, for_it walk_enumT (fun i σ H' => ∃ x1 x2, σ = [some (.ref a), some (.int m), x1, x2] ∧ Same H H') ⟨_, _, rfl, Same.refl H⟩ (fun i σ H' _ ⟨_, _, _, s⟩ => Same.seqT s hs) ?_ ?_⟩
    · rintro i x σ H1 H2 hi ⟨x1, x2, rfl, s1⟩ ⟨T, y, z, rfl, nT, rfl, ey, ez⟩
      cases ey
      obtain ⟨sy, es, hz⟩ := map_at ha ez
      have hsy := ok.sy sy (List.mem_of_getElem? es)
      have s2 : Same H (upd H1 T (.tup [.int (i : Nat), z])) := s1.trans (same_new nT)
      refine ⟨T, _, rfl, SqT.of upd_same, rfl, _, _, rfl, _, _, rfl, rfl, ?_⟩
      refine ⟨_, rfl, _, _, rfl, rfl, _, rfl, ?_⟩
      have h3 := ok.three
      refine iteDN (by omega) ?_
      refine ⟨_, rfl, _, rfl, z, sayD sy, m, rfl, .inl (dp_same s2 _ hz), say_ok hm hsy, fun H3 s3 => ⟨_, rfl, ?_⟩⟩
      refine iteBF (notT hsy) ?_
      exact ⟨_, _, rfl, s2.trans s3⟩
    · rintro σ H' ⟨x1, x2, rfl, s1⟩
      exact k H' s1
end
end Pg
set_option Elab.async false
set_option linter.all false
set_option maxRecDepth 100000
set_option maxHeartbeats 8000000
namespace Pg
open PySem PySem.Spec PyProof.Rows L2 Gd Rl Te
/-! ### the places -/
def standS (ss : List (Str × List Int)) (as : List Arm) : List Str := ss.map Prod.fst ++ (as.map fun a => [a.src, a.tgt]).flatten
def firstB (l : List Str) (i : Nat) : Bool := !(l.take i).contains (l.getD i "")
def firsts (l : List Str) : List Str := ((List.range l.length).filter (firstB l)).map fun i => l.getD i ""
def placesS (ss : List (Str × List Int)) (as : List Arm) : List Str := firsts (standS ss as)
theorem firsts_le (l : List Str) : (firsts l).length ≤ l.length := by
  unfold firsts
  rw [List.length_map]
  exact Nat.le_trans (List.length_filter_le _ _) (by rw [List.length_range]; exact Nat.le_refl _)
theorem flat_two (as : List Arm) : ((as.map fun a => [a.src, a.tgt]).flatten).length = 2 * as.length := by
  induction as with
  | nil => rfl
  | cons a as ih =>
    rw [List.map_cons, List.flatten_cons, List.length_append, ih]
    show 2 + 2 * as.length = 2 * (as.length + 1)
    omega
theorem stand_len (ss : List (Str × List Int)) (as : List Arm) : (standS ss as).length = ss.length + 2 * as.length := by
  unfold standS
  rw [List.length_append, List.length_map, flat_two]
theorem firsts_app (l r : List Str) : (firsts l).length ≤ (firsts (l ++ r)).length := by
  unfold firsts
  rw [List.length_map, List.length_map, List.length_append, List.range_add, List.filter_append, List.length_append]
  have e : (List.range l.length).filter (firstB (l ++ r)) = (List.range l.length).filter (firstB l) := by
    apply List.filter_congr
    intro i hi
    have hi2 : i < l.length := List.mem_range.mp hi
    unfold firstB
    rw [List.take_append_of_le_length (Nat.le_of_lt hi2), List.getD_eq_getElem?_getD, List.getD_eq_getElem?_getD, List.getElem?_append_left hi2]
  rw [e]
  exact Nat.le_add_right _ _
theorem places_take (ss : List (Str × List Int)) (as : List Arm) (i : Nat) : (placesS ss (as.take i)).length ≤ (placesS ss as).length := by
  have e : standS ss as = standS ss (as.take i) ++ ((as.drop i).map fun a => [a.src, a.tgt]).flatten := by
    unfold standS
    rw [List.append_assoc, ← List.flatten_append, ← List.map_append, List.take_append_drop]
  unfold placesS
  rw [e]
  exact firsts_app _ _
theorem list_is {α : Type} {l : List α} {g : α → V} {ys : List V} (hl : ys.length = l.length) (h : ∀ (i : Nat) (y : V), ys[i]? = some y → ∃ s, l[i]? = some s ∧ y = g s) : ys = l.map g := by
  apply List.ext_getElem
  · rw [hl, List.length_map]
  · intro i h1 h2
    obtain ⟨s, e1, e2⟩ := h i _ (List.getElem?_eq_getElem h1)
    rw [e2, List.getElem_map]
    obtain ⟨q, e3⟩ := List.getElem?_eq_some_iff.mp e1
    rw [e3]
theorem fst_strs (ss : List (Str × List Int)) : (ss.map fun s => V.str s.1) = (ss.map Prod.fst).map V.str := by
  rw [List.map_map]
  rfl
theorem ahead_len (p : Nat → Bool) (i : Nat) : ((List.range i).filter p).length ≤ i := Nat.le_trans (List.length_filter_le _ _) (by rw [List.length_range]; exact Nat.le_refl _)
theorem strs_at {l : List Str} {i : Nat} {z : V} (e : (l.map V.str)[i]? = some z) : ∃ c, l[i]? = some c ∧ z = .str c := by
  rw [List.getElem?_map] at e
  cases h : l[i]? with
  | none =>
    rw [h] at e
    cases e
  | some c =>
    rw [h] at e
    exact ⟨c, rfl, (Option.some.inj e).symm⟩
section
variable {P : Program} {w : World} {K : PySem.W.Frag} {mg : Str → Option Value} {base : Heap} {f : Addr} {fd : FuncData}
def spPl (K : PySem.W.Frag) : Sp := fun vs H Q _ => ∃ (u v : V) (ss : List (Str × List Int)) (as : List Arm), vs = [u, v] ∧ Dp K H u (saysD ss) ∧ Dp K H v (armsD as) ∧ ss.length ≤ 3 ∧ as.length ≤ 5 ∧ ∀ p H', Same H H' → SqT K H' p ((placesS ss as).map V.str) → Q (.ref p) H'
abbrev nPl : List Str := ["sayings", "branches", "saying", "standing", "branch", "at", "place"]
theorem scPl : FnScope nPl ["sayings", "branches"] (defScope sPl) := ⟨rfl, rfl, rfl, by decide +kernel, rfl, by decide +kernel, by decide +kernel⟩
theorem ok_pl (F : FnP K "_places_of" sPl f fd) (T : Mo mg) : FnOk P w K mg base CX0 1 f fd ["sayings", "branches"] (spPl K) := by
  refine F.ok scPl (fun vs H Q E h => ?_) (fun cdv A outer s H vs Q E hr h => ?_)
  · obtain ⟨u, v, ss, as, rfl, _⟩ := h
    rfl
  · obtain ⟨u, v, ss, as, rfl, hu, hv, l3, l5, k⟩ := h
    refine ⟨_, PSs.nox <| pss_cons (ps_set (i := 3) scPl.nd rfl (.inr rfl) (pe_lc (own := [("saying", 2)]) (g := gName 2) (tt := tYes) rfl scPl.nd (pi_tup (pv 0)) (blkOk_by (N := nPl) (sc := defScope sPl) (by decide +kernel)) (fun _ _ _ _ _ => pg_name (i := 2) scPl.nd rfl (Or.inl rfl)) (fun _ _ _ _ _ => pts_nil)
          (fun _ _ _ _ _ => pe_ix (r := rIxT K) ix_tup (pv 2) pe_int (fun _ _ => rfl))))
      <| pss_cons (ps_for PassesOwn.never rfl (pi_tup (pv 1)) (pg_name (i := 4) scPl.nd rfl (.inl rfl))
          (pss_one (ps_expr (pe_bm PySem.F.plainAttrs_list PySem.F.slot_list_extend PySem.F.type_list_extend mt_extend (pv 3) (pa_cons (pe_lstR (pa_cons (pe_ix ix_tup (pv 4) pe_int (fun _ _ => rfl)) (pa_cons (pe_ix ix_tup (pv 4) pe_int (fun _ _ => rfl)) pa_nil))) pa_nil)))))
      <| pss_one (ps_ret (pe_callTy call_tuple_of (by rfl) T.tuple (by decide +kernel) (pa_cons (pe_lc (own := [("at", 5), ("place", 6)]) (g := gTup K 2 (gCons (gName 5) (gCons (gName 6) gNil))) rfl scPl.nd (pi_enum (by rfl) T.enum (pa_cons (pv 3) pa_nil)) (blkOk_by (N := nPl) (sc := defScope sPl) (by decide +kernel))
          (fun _ _ _ _ _ => pg_tup (by rfl) (pgs_cons (pg_name (i := 5) scPl.nd rfl (.inl rfl)) (pgs_cons (pg_name (i := 6) scPl.nd rfl (.inl rfl)) pgs_nil)))
          (fun _ _ _ _ _ => pts_one (pt_cmpR (r := rIn K true) op_notIn_seq (pv 6) (pe_slice (r := rSlR K) sl_listR (pv 3) po_none (po_some (pv 5))) (by rfl)))
          (fun _ _ _ _ _ => pv 6)) pa_nil))), ?_⟩
    obtain ⟨a, xs, rfl, hs, ha⟩ := rp_tup (.inl hu)
    obtain ⟨b, ys, rfl, hb, hbs⟩ := rp_tup (.inl hv)
    have lx := dp_len ha
    have ly := dp_len hbs
    rw [List.length_map] at lx ly
    refine ⟨_, rfl, a, rfl, ⟨_, hs⟩, lcR (walk_tup (xs := xs)) (n1 := by omega) (fun H' s' => Same.seqT s' hs) (fun i y _ => ∃ s, ss[i]? = some s ∧ y = .str s.1) (fun _ _ _ _ _ e => e) ?_ ?_⟩
    · rintro D acc i x Ha Hb K2 hi s nD hD ⟨rfl, ex⟩ kk
      obtain ⟨sy, es, hz⟩ := map_at ha ex
      obtain ⟨p, zs, rfl, hp, hzs⟩ := rp_tup (.inl hz)
      cases hzs with
      | cons z0 hz1 =>
        cases z0
        cases hz1 with
        | cons z1 hz2 =>
        cases hz2
        exact ⟨rfl, _, rfl, p, _, 0, _, rfl, rfl, Same.seqT s hp, rfl, kk _ _ (Same.refl _) ⟨sy, es, rfl⟩⟩
    · rintro D H1 zs nw hlen he
      have ez : zs = (ss.map Prod.fst).map V.str := by
        rw [← fst_strs]
        exact list_is (by rw [hlen, lx]) he
      subst ez
      obtain ⟨nD, hD, s1⟩ := nw
      refine ⟨_, rfl, b, rfl, ⟨_, Same.seqT s1 hb⟩, for_tup (Pv := fun i σ H' => ∃ x2 x4 x5 x6, σ = [some (.ref a), some (.ref b), x2, some (.ref D), x4, x5, x6] ∧ Same H H' ∧ H' D = some (.lst ((standS ss (as.take i)).map V.str))) ⟨_, _, _, _, rfl, s1, ?_⟩ (fun i σ H' _ ⟨_, _, _, _, _, s, _⟩ => Same.seqT s hb) ?_ ?_⟩
      · rw [hD]
        congr 3
        unfold standS
        simp
      · rintro i x σ H2 ex ⟨x2, x4, x5, x6, rfl, s2, hD2⟩
        obtain ⟨ar, ea, hz⟩ := map_at hbs ex
        obtain ⟨p, zs, rfl, hp, hzs⟩ := rp_tup (.inl hz)
        cases hzs with
        | cons z0 hz1 =>
          cases hz1 with
          | cons z1 hz2 =>
            cases z0
            cases z1
            cases hz2 with
            | cons z2 hz3 =>
            cases hz3 with
            | cons z3 hz4 =>
            cases hz4
            have hp2 := Same.seqT s2 hp
            have hi : i < as.length := (List.getElem?_eq_some_iff.mp ea).1
            have elen : (standS ss (as.take i)).length ≤ 13 := by
              rw [stand_len, List.length_take]
              omega
            refine ⟨_, rfl, .inl ⟨rfl, _, SqL.of hD2⟩, _, rfl, p, _, 0, _, rfl, rfl, hp2, rfl, _, rfl, p, _, 1, _, rfl, rfl, hp2, rfl, (show 2 ≤ 1000 by decide), fun l H3 n3 => ?_⟩
            have hD3 := n3.2.2 _ _ hD2
            refine ⟨D, l, _, _, rfl, rfl, hD3, n3.2.1, sz1000 (by rw [List.length_map]; simp; omega), ?_⟩
            refine ⟨_, _, _, _, rfl, fun c o e => ?_, ?_⟩
            · rw [upd_ne (ne_of_none e nD)]
              exact n3.2.2 _ _ (s2 _ _ e)
            · rw [upd_same]
              congr 2
              rw [List.take_add_one, ea]
              unfold standS
              simp
      · rintro σ H2 ⟨x2, x4, x5, x6, rfl, s2, hD2⟩
        rw [ly, List.take_length] at hD2
        have l16 : (standS ss as).length ≤ 13 := by
          rw [stand_len]
          omega
        have l1000 : ((standS ss as).map V.str).length ≤ 1000 := by
          rw [List.length_map]
          omega
        refine ⟨_, rfl, D, _, rfl, SqL.of hD2, fun D2 nD2 => lc_it walk_enum (fun i H' => Same H2 H' ∧ H' D2 = some (.lst ((((List.range i).filter (firstB (standS ss as))).map fun j => (standS ss as).getD j "").map V.str))) ⟨same_new nD2, upd_same⟩ (fun i H' _ ⟨s, _⟩ => s.seq (SqL.of hD2)) ?_ ?_⟩
        · rintro i x H3 H4 hi ⟨s3, h3⟩ ⟨T, y, z, rfl, nT, rfl, ey, ez⟩
          cases ey
          replace ez : ((standS ss as).map V.str)[i]? = some z := ez
          obtain ⟨c, ec, rfl⟩ := strs_at ez
          have hi2 : i < (standS ss as).length := (List.getElem?_eq_some_iff.mp ec).1
          have s4 : Same H3 (upd H3 T (.tup [.int (i : Nat), .str c])) := same_new nT
          have hD4 := s4 _ _ (s3 _ _ hD2)
          refine ⟨T, _, rfl, SqT.of upd_same, rfl, _, _, rfl, _, _, rfl, rfl, rfl, ?_⟩
          refine ⟨_, rfl, _, rfl, _, rfl, _, rfl, D, _, rfl, SqL.of hD4, fun p H5 n5 => ?_⟩
          rw [cut_take (by rw [List.length_map]; omega), ← List.map_take] at n5
          refine ⟨p, _, rfl, .inl (SqL.of n5.2.1), rfl, flat_strs _, _, rfl, ?_⟩
          have eg : (standS ss as).getD i "" = c := by
            rw [List.getD_eq_getElem?_getD, ec]
            rfl
          have eB : (if true = true then !inV (V.str c) (((standS ss as).take i).map V.str) else inV (V.str c) (((standS ss as).take i).map V.str)) = firstB (standS ss as) i := by
            rw [if_pos rfl, inV_strs]
            unfold firstB
            rw [eg]
          have h5 := n5.2.2 _ _ (s4 _ _ h3)
          have s25 := s3.trans (s4.trans n5.2.2)
          have hlen := ahead_len (firstB (standS ss as)) i
          cases hB : firstB (standS ss as) i with
          | true =>
            refine iteBT (eB.trans hB) ?_
            refine ⟨_, rfl, _, h5, small1000 ?_, fun q o e => ?_, ?_⟩
            · rw [List.length_map, List.length_map]
              omega
            · rw [upd_ne (ne_of_none e nD2)]
              exact s25 _ _ e
            · rw [upd_same, List.range_succ, List.filter_append, List.filter_cons, hB]
              simp only [if_true, List.filter_nil, List.map_append, List.map_cons, List.map_nil, eg]
          | false =>
            refine iteBF (eB.trans hB) ?_
            refine ⟨s25, ?_⟩
            rw [h5, List.range_succ, List.filter_append, List.filter_cons, hB]
            simp
        · rintro H3 ⟨s3, h3⟩
          rw [List.length_map] at h3
          refine ⟨D2, _, rfl, .inl ⟨SqL.of h3, fun l nl => ?_⟩⟩
          exact k l _ ((s2.trans s3).trans (same_new nl)) (SqT.of upd_same)
end
end Pg
set_option Elab.async false
set_option linter.all false
set_option maxRecDepth 100000
set_option maxHeartbeats 8000000
namespace Nu
open PySem PySem.Spec PyProof.Rows L2 TL
/-! whole numbers as texts -/
def numS (i : Int) : Str := Str.ofString (toString i)
theorem tl_neg (n : Nat) : tl (numS (Int.negSucc n)) = 45 :: numL (n + 1) := by
  unfold numS
  rw [tl_ofString]
  show ("-" ++ Nat.repr (n + 1)).toList.map Char.toNat = _
  rw [String.toList_append, List.map_append, Nat.toList_repr]
  rfl
theorem tl_pos (n : Nat) : tl (numS (Int.ofNat n)) = numL n := tl_num n
theorem num_signs (i : Int) : ∀ c ∈ tl (numS i), c = 45 ∨ (48 ≤ c ∧ c ≤ 57) := by
  intro c hc
  cases i with
  | ofNat n =>
    rw [tl_pos] at hc
    exact .inr (numL_digits n c hc)
  | negSucc n =>
    rw [tl_neg] at hc
    rcases List.mem_cons.mp hc with h | h
    · exact .inl h
    · exact .inr (numL_digits _ c h)
theorem num_free {s : Nat} (i : Int) (h : s < 45 ∨ 57 < s) : s ∉ tl (numS i) := fun hm => by
  have := num_signs i s hm
  omega
theorem num_ne (i : Int) : tl (numS i) ≠ [] := by
  cases i with
  | ofNat n =>
    rw [tl_pos]
    exact numL_ne n
  | negSucc n =>
    rw [tl_neg]
    exact fun h => by cases h
theorem num_len {i : Int} (h : -1000000 ≤ i ∧ i ≤ 1000000) : (numS i).length ≤ 8 := by
  rw [len_tl]
  cases i with
  | ofNat n =>
    rw [tl_pos]
    have h2 : Int.ofNat n = (n : Int) := rfl
    exact Nat.le_trans (numL_len (n := n) (k := 7) (by decide) (by omega)) (by decide)
  | negSucc n =>
    rw [tl_neg, List.length_cons]
    have h2 : n + 1 < 10 ^ 7 := by
      have := h.1
      omega
    have := numL_len (n := n + 1) (k := 7) (by decide) h2
    omega
theorem num_read {i : Int} (h : -1000000 ≤ i ∧ i ≤ 1000000) : intText? (numS i) = some i := by
  have hl := num_len h
  cases i with
  | ofNat n =>
    have e := PySem.intText_digits (x := numS (Int.ofNat n)) (by
      have := tl_pos n
      unfold TL.tl at this
      rw [this]
      exact numL_digits n) (num_ne _) (by omega)
    rw [e]
    have := tl_pos n
    unfold TL.tl at this
    rw [this, numL_val]
    rfl
  | negSucc n =>
    have e := PySem.intText_neg (x := numS (Int.negSucc n)) (tl_neg n) (numL_digits _) (numL_ne _) (by omega)
    rw [e, numL_val]
    rfl
theorem num_log {i : Int} (h : -1000000 ≤ i ∧ i ≤ 1000000) : i.natAbs.log2 < 1920 := by
  have h1 : i.natAbs < 2 ^ 20 := by
    have : (2 : Nat) ^ 20 = 1048576 := by decide
    omega
  by_cases h0 : i.natAbs = 0
  · rw [h0]
    decide
  · have := (Nat.log2_lt h0).mpr h1
    omega
end Nu
set_option Elab.async false
set_option linter.all false
set_option maxRecDepth 100000
set_option maxHeartbeats 8000000
namespace Pg
open PySem PySem.Spec PyProof.Rows L2 Gd Rl Te Nu
abbrev sCB : Stmt := top 41
abbrev sWd : Stmt := top 46
/-! ### _check_branches -/
theorem form_nums {m : Nat} {f : List Int} (h : formB m (fD f) = true) : f.length = m + 1 ∧ ∀ i ∈ f, -1000000 ≤ i ∧ i ≤ 1000000 := by
  have h2 : (decide ((f.map PyData.int).length = m + 1) && (f.map PyData.int).all numB) = true := h
  rw [Bool.and_eq_true, decide_eq_true_eq, List.length_map, List.all_map, List.all_eq_true] at h2
  refine ⟨h2.1, fun i hi => ?_⟩
  have h3 : (decide (-1000000 ≤ i) && decide (i ≤ 1000000)) = true := h2.2 i hi
  simpa using h3
theorem ok_ints (l : List Int) : okAll (l.map PyData.int) = true := by
  induction l with
  | nil => rfl
  | cons a l ih =>
    rw [List.map_cons, okAll, ih]
    rfl
theorem form_ok {m : Nat} (hm : m ≤ 900) {f : List Int} (h : formB m (fD f) = true) : okD (fD f) = true := by
  unfold fD
  rw [okD, ok_ints, decide_eq_true (by rw [List.length_map, (form_nums h).1]; omega)]
  rfl
theorem all_ok : ∀ {l : List PyData}, (∀ d ∈ l, okD d = true) → okAll l = true
  | [], _ => rfl
  | d :: l, h => by
    rw [okAll, h d (List.mem_cons_self ..), all_ok fun e he => h e (List.mem_cons_of_mem _ he)]
    rfl
theorem forms_ok {m : Nat} (hm : m ≤ 900) {fs : List (List Int)} (hl : fs.length ≤ 1000) (h : formsB m (.tuple (fs.map fD)) = true) : okD (.tuple (fs.map fD)) = true := by
  have h2 : (fs.map fD).all (formB m) = true := h
  rw [List.all_eq_true] at h2
  rw [okD, decide_eq_true (by rw [List.length_map]; exact hl), Bool.true_and]
  refine all_ok fun d hd => ?_
  obtain ⟨f, hf, rfl⟩ := List.mem_map.mp hd
  exact form_ok hm (h2 _ hd)
structure ArmOk (m : Nat) (a : Arm) : Prop where
  s : nameS a.src = true
  t : nameS a.tgt = true
  ts : formsB m (.tuple (a.tests.map fD)) = true
  t3 : a.tests.length ≤ 3
  cs : formsB m (.tuple (a.turns.map fD)) = true
  cm : a.turns.length = m
theorem arm_is {m : Nat} {a : Arm} : brB m (armD a) = true ↔ ArmOk m a := by
  have e : brB m (armD a) = (nameS a.src && (nameS a.tgt && ((formsB m (.tuple (a.tests.map fD)) && decide ((a.tests.map fD).length ≤ 3)) && (formsB m (.tuple (a.turns.map fD)) && decide ((a.turns.map fD).length = m))))) := rfl
  rw [e]
  simp only [Bool.and_eq_true, decide_eq_true_eq, List.length_map]
  exact ⟨fun ⟨a, b, ⟨c, d⟩, e, f⟩ => ⟨a, b, c, d, e, f⟩, fun h => ⟨h.s, h.t, ⟨h.ts, h.t3⟩, h.cs, h.cm⟩⟩
theorem ok_four {a b c d : PyData} (h1 : okD a = true) (h2 : okD b = true) (h3 : okD c = true) (h4 : okD d = true) : okD (.tuple [a, b, c, d]) = true := by
  simp only [okD, okAll, h1, h2, h3, h4]
  rfl
theorem arm_ok {m : Nat} (hm : m ≤ 900) {a : Arm} (h : ArmOk m a) : okD (armD a) = true := by
  have h1 := forms_ok hm (by have := h.t3; omega) h.ts
  have h2 := forms_ok hm (by have := h.cm; omega) h.cs
  exact ok_four (decide_eq_true (name_len h.s)) (decide_eq_true (name_len h.t)) h1 h2
structure OkA (m : Nat) (ss : List (Str × List Int)) (as : List Arm) : Prop where
  one : 1 ≤ as.length
  five : as.length ≤ 5
  arm : ∀ a ∈ as, ArmOk m a
  pl : (placesS ss as).length ≤ 3
theorem dp_take {K : PySem.W.Frag} {H : Hp} : ∀ (i : Nat) {vs : List V} {ds : List PyData}, DpAll K H vs ds → DpAll K H (vs.take i) (ds.take i)
  | 0, _, _, _ => .nil
  | i + 1, _, _, .nil => .nil
  | i + 1, _, _, .cons a b => .cons a (dp_take i b)
section
variable {P : Program} {w : World} {K : PySem.W.Frag} {mg : Str → Option Value} {base : Heap} {f : Addr} {fd : FuncData}
def spCB (K : PySem.W.Frag) : Sp := fun vs H Q _ => ∃ (v u : V) (m : Nat) (ss : List (Str × List Int)) (as : List Arm), vs = [v, .int m, u] ∧ m ≤ 900 ∧ Dp K H v (armsD as) ∧ Dp K H u (saysD ss) ∧ ss.length ≤ 3 ∧ OkA m ss as ∧ ∀ H', Same H H' → Q .non H'
theorem scCB : FnScope ["branches", "many", "sayings", "at", "branch"] ["branches", "many", "sayings"] (defScope sCB) := ⟨rfl, rfl, rfl, by decide +kernel, rfl, by decide +kernel, by decide +kernel⟩
theorem ok_cb {fI fN fF fS fB fP : Addr} {dI dN dF dS dB dP : FuncData} (F : FnP K "_check_branches" sCB f fd) (T : Mo mg) (J : Js K mg fI fN fF fS dI dN dF dS) (FB : FnP K "_is_branch" sBr fB dB) (gB : mg "_is_branch" = some (.ref fB)) (FP : FnP K "_places_of" sPl fP dP) (gP : mg "_places_of" = some (.ref fP)) : FnOk P w K mg base CX0 6 f fd ["branches", "many", "sayings"] (spCB K) := by
  have GB : FnOk P w K mg base CX0 5 fB dB ["value", "many"] (spJ2 K brB) := ok_br FB T J
  have GP : FnOk P w K mg base CX0 1 fP dP ["sayings", "branches"] (spPl K) := ok_pl FP T
  have bB : Binds K dB ["value", "many"] [] := FB.bindsN fun _ _ _ _ _ _ us hl => match us, hl with | [_, _], _ => rfl
  have bP : Binds K dP ["sayings", "branches"] [] := FP.bindsN fun _ _ _ _ _ _ us hl => match us, hl with | [_, _], _ => rfl
  obtain ⟨t1, c1⟩ := T.mbra
  obtain ⟨t2, c2⟩ := T.mpla
  refine F.ok scCB (fun vs H Q E h => ?_) (fun cdv A outer s H vs Q E hr h => ?_)
  · obtain ⟨v, u, m, ss, as, rfl, _⟩ := h
    rfl
  · obtain ⟨v, u, m, ss, as, rfl, hm, hv, hu, l3, ok, k⟩ := h
    have hr1 := hr.mono (show 1 ≤ 5 by decide)
    refine ⟨_, PSs.nox <| pss_cons (ps_if (PW.pt (pw_or (pt_not (pt_val (pe_callB (call_isD (T := "tuple")) (by rfl) T.isi boot_isinstance (pa_cons (pv 0) (pa_cons (pe_bltn (v := .ty "tuple") (by rfl) T.tuple (by decide +kernel) rfl) pa_nil)))))
        (pw_or1 (pt_not (pt_truth (pv 0) (by intro _; rfl)))))) (pss_one ps_never) pss_nil)
      <| pss_one (ps_for PassesOwn.never rfl (pi_enumT (by rfl) T.enum (pa_cons (pv 0) pa_nil)) (pg_tup (by rfl) (pgs_cons (pg_name (i := 3) scCB.nd rfl (.inl rfl)) (pgs_cons (pg_name (i := 4) scCB.nd rfl (.inl rfl)) pgs_nil)))
          (pss_cons (ps_if (PW.pt (pw_or (pt_cmpR op_ge (pv 3) (pe_glob (v := .int 5) (by rfl) c1 ⟨_, rfl⟩) (nomark _))
            (pw_or1 (pt_not (pt_val (pe_call GB hr (by rfl) gB FB.kp bB .nil pass0 (pa_cons (pv 4) (pa_cons (pv 1) pa_nil)))))))) (pss_one ps_never) pss_nil)
          <| pss_one (ps_if (pt_cmpR op_gt (pe_callB call_len (by rfl) T.len PySem.boot_len (pa_cons (pe_call GP hr1 (by rfl) gP FP.kp bP .nil pass0 (pa_cons (pv 2) (pa_cons (pe_slice (r := rSlTR K) sl_tupR (pv 0) po_none (po_some (pe_op op_add (pv 3) pe_int))) pa_nil))) pa_nil)) (pe_glob (v := .int 3) (by rfl) c2 ⟨_, rfl⟩) (nomark _)) (pss_one ps_never) pss_nil))), ?_⟩
    obtain ⟨a, xs, rfl, hs, ha⟩ := rp_tup (.inl hv)
    have lx := dp_len ha
    rw [List.length_map] at lx
    refine ⟨_, rfl, _, _, _, rfl, .inl hv, kit_tuple _, _, rfl, ?_⟩
    refine iteF ?_
    refine ⟨_, rfl, true, .inr (.inl ⟨_, hs, ?_⟩), ?_⟩
    · have h1 := ok.one
      cases xs with
      | nil =>
        rw [← lx] at h1
        exact absurd h1 (by decide)
      | cons n ns => rfl
    refine iteF ?_
    refine ⟨_, rfl, a, _, rfl, hs, for_it walk_enumT (fun i σ H' => ∃ x1 x2, σ = [some (.ref a), some (.int m), some u, x1, x2] ∧ Same H H') ⟨_, _, rfl, Same.refl H⟩ (fun i σ H' _ ⟨_, _, _, s⟩ => Same.seqT s hs) ?_ ?_⟩
    · rintro i x σ H1 H2 hi ⟨x1, x2, rfl, s1⟩ ⟨T, y, z, rfl, nT, rfl, ey, ez⟩
      cases ey
      obtain ⟨ar, ea, hz⟩ := map_at ha ez
      have har := ok.arm ar (List.mem_of_getElem? ea)
      have s2 : Same H (upd H1 T (.tup [.int (i : Nat), z])) := s1.trans (same_new nT)
      refine ⟨T, _, rfl, SqT.of upd_same, rfl, _, _, rfl, _, _, rfl, rfl, ?_⟩
      refine ⟨_, rfl, _, _, rfl, rfl, _, rfl, ?_⟩
      have h5 := ok.five
      refine iteDN (by omega) ?_
      refine ⟨_, rfl, _, rfl, z, armD ar, m, rfl, .inl (dp_same s2 _ hz), arm_ok hm har, fun H3 s3 => ⟨_, rfl, ?_⟩⟩
      refine iteBF (notT (arm_is.mpr har)) ?_
      have s13 := s2.trans s3
      refine ⟨_, rfl, _, rfl, _, rfl, _, _, rfl, rfl, _, rfl, a, _, rfl, Same.seqT s13 hs, fun p H4 s4 hp => ?_⟩
      rw [show ((i : Int) + 1) = ((i + 1 : Nat) : Int) from rfl, cut_take (by omega)] at hp
      have s14 := s13.trans s4
      have hA : Dp K H4 (.ref p) (armsD (as.take (i + 1))) := by
        unfold armsD
        rw [List.map_take]
        exact .tup hp (dp_take (i + 1) (dp_sameAll s14 _ ha))
      refine ⟨u, .ref p, ss, as.take (i + 1), rfl, dp_same s14 _ hu, hA, l3, by rw [List.length_take]; omega, fun q H5 s5 hq => ?_⟩
      refine ⟨_, _, rfl, .inr ⟨_, hq, rfl⟩, _, _, rfl, rfl, _, rfl, ?_⟩
      have hp3 := places_take ss as (i + 1)
      have h3 := ok.pl
      refine iteDN (by rw [List.length_map]; omega) ?_
      exact ⟨_, _, rfl, s14.trans s5⟩
    · rintro σ H' ⟨x1, x2, rfl, s1⟩
      exact k H' s1
/-! ### _words_of -/
def wordsS (f : List Int) : Str := Txt.join " " (f.map numS)
structure OkF (f : List Int) : Prop where
  four : f.length ≤ 4
  nums : ∀ i ∈ f, -1000000 ≤ i ∧ i ≤ 1000000
def spWd (K : PySem.W.Frag) : Sp := fun vs H Q _ => ∃ (v : V) (f : List Int), vs = [v] ∧ Dp K H v (fD f) ∧ OkF f ∧ ∀ H', Same H H' → Q (.str (wordsS f)) H'
theorem scWd : FnScope ["form", "number"] ["form"] (defScope sWd) := ⟨rfl, rfl, rfl, by decide +kernel, rfl, by decide +kernel, by decide +kernel⟩
theorem sum_le {l : List Nat} {b : Nat} (h : ∀ x ∈ l, x ≤ b) : l.sum ≤ l.length * b := by
  induction l with
  | nil => simp
  | cons a l ih =>
    rw [List.sum_cons, List.length_cons, Nat.succ_mul]
    have h1 := h a (List.mem_cons_self ..)
    have h2 := ih fun x hx => h x (List.mem_cons_of_mem _ hx)
    omega
theorem words_sum {f : List Int} (ok : OkF f) : ((f.map numS).map (·.length)).sum ≤ 32 := by
  have h := sum_le (l := (f.map numS).map (·.length)) (b := 8) (fun x hx => by
    obtain ⟨y, hy, rfl⟩ := List.mem_map.mp hx
    obtain ⟨i, hi, rfl⟩ := List.mem_map.mp hy
    exact num_len (ok.nums i hi))
  rw [List.length_map, List.length_map] at h
  have := ok.four
  omega
theorem ok_wd (F : FnP K "_words_of" sWd f fd) (T : Mo mg) : FnOk P w K mg base CX0 1 f fd ["form"] (spWd K) := by
  refine F.ok scWd (fun vs H Q E h => ?_) (fun cdv A outer s H vs Q E hr h => ?_)
  · obtain ⟨v, d, rfl, _⟩ := h
    rfl
  · obtain ⟨v, fo, rfl, hd, ok, k⟩ := h
    refine ⟨_, PSs.nox <| pss_one (ps_ret (pe_join pe_str (pe_lc (own := [("number", 1)]) (g := gName 1) (tt := tYes) rfl scWd.nd (pi_tup (pv 0)) (blkOk_by (N := ["form", "number"]) (sc := defScope sWd) (by decide +kernel)) (fun _ _ _ _ _ => pg_name (i := 1) scWd.nd rfl (Or.inl rfl)) (fun _ _ _ _ _ => pts_nil)
          (fun _ _ _ _ _ => pe_callTy call_str_int (by rfl) T.str (by decide +kernel) (pa_cons (pv 1) pa_nil))))), ?_⟩
    obtain ⟨a, xs, rfl, hs, ha⟩ := rp_tup (.inl hd)
    have lx := dp_len ha
    rw [List.length_map] at lx
    have h4 := ok.four
    refine ⟨⟨_, rfl⟩, _, rfl, a, rfl, ⟨_, hs⟩, lcR (walk_tup (xs := xs)) (n1 := by omega) (fun H' s' => Same.seqT s' hs) (fun i y _ => ∃ s, fo[i]? = some s ∧ y = .str (numS s)) (fun _ _ _ _ _ e => e) ?_ ?_⟩
    · rintro D acc i x Ha Hb K2 hi s nD hD ⟨rfl, ex⟩ kk
      obtain ⟨n, en, hz⟩ := map_at ha ex
      cases hz
      have hn := ok.nums n (List.mem_of_getElem? en)
      exact ⟨rfl, _, rfl, n, rfl, num_log hn, kk _ _ (Same.refl _) ⟨n, en, rfl⟩⟩
    · rintro D H1 zs nw hlen he
      have ez : zs = (fo.map numS).map V.str := by
        rw [List.map_map]
        exact list_is (by rw [hlen, lx]) he
      subst ez
      refine ⟨_, D, fo.map numS, rfl, rfl, .inl (SqL.of nw.2.1), ?_, k H1 nw.2.2⟩
      have := words_sum ok
      have e1 : (" " : Str).length = 1 := by decide +kernel
      rw [e1, List.length_map]
      omega
end
end Pg
set_option Elab.async false
set_option linter.all false
set_option maxRecDepth 100000
set_option maxHeartbeats 8000000
namespace Pg
open PySem PySem.Spec PyProof.Rows L2 Gd Rl Te Nu TL
abbrev sTx : Stmt := top 45
/-! ### the text -/
def lineV (ns : List Str) : Str := Txt.join " " ("vars" :: ns)
def lineS (s : Str × List Int) : Str := Str.empty ++ "say " ++ s.1 ++ " " ++ wordsS s.2
def lineB (a : Arm) : Str := Str.empty ++ "branch " ++ a.src ++ " " ++ a.tgt
def lineT (t : List Int) : Str := Str.empty ++ "test " ++ wordsS t
def lineE (a : Arm) : Str := "then " ++ Txt.join "; " (a.turns.map wordsS)
def armL (a : Arm) : List Str := lineB a :: (a.tests.map lineT ++ [lineE a])
def linesS (ns : List Str) (ss : List (Str × List Int)) (as : List Arm) : List Str := lineV ns :: (ss.map lineS ++ (as.map armL).flatten)
def textS (ns : List Str) (ss : List (Str × List Int)) (as : List Arm) : Str := Txt.join "\n" (linesS ns ss as)
/-! ### how long -/
theorem len_app (x y : Str) : (x ++ y).length = x.length + y.length := by
  rw [len_tl, tl_append, List.length_append, ← len_tl, ← len_tl]
theorem joinS_len (y : Str) : ∀ ps : List Str, (Str.join y ps).length ≤ (ps.map (·.length)).sum + ps.length * y.length
  | [] => Nat.zero_le _
  | [p] => by
    show p.length ≤ _
    simp
  | p :: q :: r => by
    have ih := joinS_len y (q :: r)
    have e : Str.join y (p :: q :: r) = p ++ y ++ Str.join y (q :: r) := rfl
    rw [e, len_app, len_app, List.map_cons, List.sum_cons, List.length_cons, Nat.succ_mul]
    omega
theorem join_len (y : Str) (ps : List Str) : (Txt.join y ps).length ≤ (ps.map (·.length)).sum + ps.length * y.length := by
  rw [join_eq]
  exact joinS_len y ps
theorem words_len {f : List Int} (ok : OkF f) : (wordsS f).length ≤ 36 := by
  have h := join_len " " (f.map numS)
  have h1 := words_sum ok
  have h2 := ok.four
  have e1 : (" " : Str).length = 1 := by decide +kernel
  rw [e1, List.length_map] at h
  unfold wordsS
  omega
theorem okF_of {m : Nat} (hm : m ≤ 3) {f : List Int} (h : formB m (fD f) = true) : OkF f := ⟨by rw [(form_nums h).1]; omega, (form_nums h).2⟩
theorem name_len8 {z : Str} (h : nameS z = true) : z.length ≤ 8 := by
  have lz : z.length = z.cps.toList.length := by
    rw [Array.length_toList]
    rfl
  unfold nameS at h
  rw [lz]
  cases e : z.cps.toList with
  | nil => exact Nat.zero_le _
  | cons c r =>
    rw [e] at h
    simp only [Bool.and_eq_true, decide_eq_true_eq] at h
    exact h.1
theorem say_parts {m : Nat} {s : Str × List Int} (h : sayB m (sayD s) = true) : nameS s.1 = true ∧ formB m (fD s.2) = true := by
  have h1 : (nameS s.1 && formB m (fD s.2)) = true := h
  simpa using h1
theorem forms_each {m : Nat} {fs : List (List Int)} (h : formsB m (.tuple (fs.map fD)) = true) : ∀ f ∈ fs, formB m (fD f) = true := by
  have h2 : (fs.map fD).all (formB m) = true := h
  rw [List.all_eq_true] at h2
  exact fun f hf => h2 _ (List.mem_map_of_mem hf)
theorem size1000 {n : Nat} (h : n ≤ 1000) : n ≤ 16777216 := by omega
theorem sum_map_le {α : Type} {l : List α} {g : α → Str} {b : Nat} (h : ∀ x ∈ l, (g x).length ≤ b) : ((l.map g).map (·.length)).sum ≤ l.length * b := by
  have q := sum_le (l := (l.map g).map (·.length)) (b := b) (fun x hx => by
    obtain ⟨y, hy, rfl⟩ := List.mem_map.mp hx
    obtain ⟨i, hi, rfl⟩ := List.mem_map.mp hy
    exact h i hi)
  rw [List.length_map, List.length_map] at q
  exact q
theorem lineV_sum {ns : List Str} (ok : OkN ns) : ((("vars" : Str) :: ns).map (·.length)).sum ≤ 28 := by
  have h := sum_map_le (l := ns) (g := id) (b := 8) fun z hz => name_len8 (ok.nm z hz)
  rw [List.map_id] at h
  rw [List.map_cons, List.sum_cons, show ("vars" : Str).length = 4 by decide +kernel]
  have := ok.three
  omega
theorem lineV_len {ns : List Str} (ok : OkN ns) : (lineV ns).length ≤ 32 := by
  have h := join_len " " ("vars" :: ns)
  have h1 := lineV_sum ok
  have h2 := ok.three
  rw [show (" " : Str).length = 1 by decide +kernel, List.length_cons] at h
  unfold lineV
  omega
theorem e0 : Str.empty.length = 0 := by decide +kernel
theorem lineS_len {m : Nat} (hm : m ≤ 3) {s : Str × List Int} (h : sayB m (sayD s) = true) : (lineS s).length ≤ 50 := by
  obtain ⟨h1, h2⟩ := say_parts h
  unfold lineS
  rw [len_app, len_app, len_app, len_app, e0, show ("say " : Str).length = 4 by decide +kernel, show (" " : Str).length = 1 by decide +kernel]
  have := name_len8 h1
  have := words_len (okF_of hm h2)
  omega
theorem lineB_len {m : Nat} {a : Arm} (h : ArmOk m a) : (lineB a).length ≤ 50 := by
  unfold lineB
  rw [len_app, len_app, len_app, len_app, e0, show ("branch " : Str).length = 7 by decide +kernel, show (" " : Str).length = 1 by decide +kernel]
  have := name_len8 h.s
  have := name_len8 h.t
  omega
theorem lineT_len {t : List Int} (h : OkF t) : (lineT t).length ≤ 50 := by
  unfold lineT
  rw [len_app, len_app, e0, show ("test " : Str).length = 5 by decide +kernel]
  have := words_len h
  omega
theorem turns_sum {m : Nat} (hm : m ≤ 3) {a : Arm} (h : ArmOk m a) : ((a.turns.map wordsS).map (·.length)).sum ≤ 108 := by
  have q := sum_map_le (l := a.turns) (g := wordsS) (b := 36) fun f hf => words_len (okF_of hm (forms_each h.cs f hf))
  have := h.cm
  omega
theorem turns_len {m : Nat} (hm : m ≤ 3) {a : Arm} (h : ArmOk m a) : (Txt.join "; " (a.turns.map wordsS)).length ≤ 114 := by
  have q := join_len "; " (a.turns.map wordsS)
  have h1 := turns_sum hm h
  have h2 := h.cm
  rw [show ("; " : Str).length = 2 by decide +kernel, List.length_map] at q
  omega
theorem lineE_len {m : Nat} (hm : m ≤ 3) {a : Arm} (h : ArmOk m a) : (lineE a).length ≤ 119 := by
  unfold lineE
  rw [len_app, show ("then " : Str).length = 5 by decide +kernel]
  have := turns_len hm h
  omega
theorem armL_len {m : Nat} {a : Arm} (h : ArmOk m a) : (armL a).length ≤ 5 := by
  unfold armL
  rw [List.length_cons, List.length_append, List.length_map]
  have := h.t3
  show a.tests.length + 1 + 1 ≤ 5
  omega
theorem flat_len {α β : Type} {l : List α} {g : α → List β} {b : Nat} (h : ∀ x ∈ l, (g x).length ≤ b) : ((l.map g).flatten).length ≤ l.length * b := by
  rw [List.length_flatten]
  have q := sum_le (l := (l.map g).map List.length) (b := b) (fun x hx => by
    obtain ⟨y, hy, rfl⟩ := List.mem_map.mp hx
    obtain ⟨i, hi, rfl⟩ := List.mem_map.mp hy
    exact h i hi)
  rw [List.length_map, List.length_map] at q
  exact q
structure OkT (m : Nat) (ns : List Str) (ss : List (Str × List Int)) (as : List Arm) : Prop where
  m3 : m ≤ 3
  n : OkN ns
  s : OkS m ss
  a5 : as.length ≤ 5
  arm : ∀ a ∈ as, ArmOk m a
theorem lines_len {m : Nat} {ns : List Str} {ss : List (Str × List Int)} {as : List Arm} (ok : OkT m ns ss as) : (linesS ns ss as).length ≤ 29 := by
  unfold linesS
  rw [List.length_cons, List.length_append, List.length_map]
  have h := flat_len (l := as) (g := armL) (b := 5) fun a ha => armL_len (ok.arm a ha)
  have := ok.a5
  have := ok.s.three
  omega
theorem lines_each {m : Nat} {ns : List Str} {ss : List (Str × List Int)} {as : List Arm} (ok : OkT m ns ss as) : ∀ z ∈ linesS ns ss as, z.length ≤ 119 := by
  intro z hz
  unfold linesS at hz
  rcases List.mem_cons.mp hz with rfl | hz
  · exact Nat.le_trans (lineV_len ok.n) (by decide)
  rcases List.mem_append.mp hz with hz | hz
  · obtain ⟨s, hs, rfl⟩ := List.mem_map.mp hz
    exact Nat.le_trans (lineS_len ok.m3 (ok.s.sy s hs)) (by decide)
  · obtain ⟨l, hl, hz⟩ := List.mem_flatten.mp hz
    obtain ⟨a, ha, rfl⟩ := List.mem_map.mp hl
    have hA := ok.arm a ha
    unfold armL at hz
    rcases List.mem_cons.mp hz with rfl | hz
    · exact Nat.le_trans (lineB_len hA) (by decide)
    rcases List.mem_append.mp hz with hz | hz
    · obtain ⟨t, ht, rfl⟩ := List.mem_map.mp hz
      exact Nat.le_trans (lineT_len (okF_of ok.m3 (forms_each hA.ts t ht))) (by decide)
    · rw [List.mem_singleton.mp hz]
      exact lineE_len ok.m3 hA
theorem lines_sum {m : Nat} {ns : List Str} {ss : List (Str × List Int)} {as : List Arm} (ok : OkT m ns ss as) : ((linesS ns ss as).map (·.length)).sum ≤ 3451 := by
  have h := sum_map_le (l := linesS ns ss as) (g := id) (b := 119) (lines_each ok)
  rw [List.map_id] at h
  have := lines_len ok
  omega
theorem text_len {m : Nat} {ns : List Str} {ss : List (Str × List Int)} {as : List Arm} (ok : OkT m ns ss as) : (textS ns ss as).length ≤ 3480 := by
  have h := join_len "\n" (linesS ns ss as)
  have h1 := lines_sum ok
  have h2 := lines_len ok
  rw [show ("\n" : Str).length = 1 by decide +kernel] at h
  unfold textS
  omega
end Pg
set_option Elab.async false
set_option linter.all false
set_option maxRecDepth 100000
set_option maxHeartbeats 8000000
namespace Pg
open PySem PySem.Spec PyProof.Rows L2 Gd Rl Te Nu TL
theorem sz9 {n : Nat} (h : n ≤ 1000) : n ≤ sizeLine := sz1000 h
section
variable {P : Program} {w : World} {K : PySem.W.Frag} {mg : Str → Option Value} {base : Heap} {f : Addr} {fd : FuncData}
def spTx (K : PySem.W.Frag) : Sp := fun vs H Q _ => ∃ (u v z : V) (m : Nat) (ns : List Str) (ss : List (Str × List Int)) (as : List Arm), vs = [u, v, z] ∧ Dp K H u (namesD ns) ∧ Dp K H v (saysD ss) ∧ Dp K H z (armsD as) ∧ OkT m ns ss as ∧ ∀ H', Same H H' → Q (.str (textS ns ss as)) H'
abbrev nTx : List Str := ["names", "sayings", "branches", "lines", "place", "form", "source", "target", "tests", "changes", "test", "change"]
theorem scTx : FnScope nTx ["names", "sayings", "branches"] (defScope sTx) := ⟨rfl, rfl, rfl, by decide +kernel, rfl, by decide +kernel, by decide +kernel⟩
theorem put_str {L : List Str} {y : Str} : (L.map V.str) ++ [V.str y] = (L ++ [y]).map V.str := by
  rw [List.map_append]
  rfl
theorem none_of_same {H H1 : Hp} {l : Addr} (s : Same H H1) (n : H1 l = none) : H l = none := by
  cases e : H l with
  | none => rfl
  | some o =>
    have := s _ _ e
    rw [n] at this
    cases this
/-- the lines so far at l, all else as it stood at H -/
structure Grow (H : Hp) (l : Addr) (L : List Str) (H' : Hp) : Prop where
  n : H l = none
  s : Same H H'
  e : H' l = some (.lst (L.map V.str))
theorem Grow.keep {H H1 H2 : Hp} {l : Addr} {L : List Str} (g : Grow H l L H1) (s : Same H1 H2) : Grow H l L H2 := ⟨g.n, g.s.trans s, s _ _ g.e⟩
theorem Grow.put {H H1 : Hp} {l : Addr} {L : List Str} (g : Grow H l L H1) (y : Str) : Grow H l (L ++ [y]) (upd H1 l (.lst ((L.map V.str) ++ [V.str y]))) :=
  ⟨g.n, fun b o e => by
    rw [upd_ne (ne_of_none e g.n)]
    exact g.s _ _ e, by rw [upd_same, put_str]⟩
theorem ok_tx {fW : Addr} {dW : FuncData} (F : FnP K "_text_of" sTx f fd) (T : Mo mg) (FW : FnP K "_words_of" sWd fW dW) (gW : mg "_words_of" = some (.ref fW)) : FnOk P w K mg base CX0 2 f fd ["names", "sayings", "branches"] (spTx K) := by
  have GW : FnOk P w K mg base CX0 1 fW dW ["form"] (spWd K) := ok_wd FW T
  have bW : Binds K dW ["form"] [] := FW.bindsN fun _ _ _ _ _ _ us hl => match us, hl with | [_], _ => rfl
  refine F.ok scTx (fun vs H Q E h => ?_) (fun cdv A outer s H vs Q E hr h => ?_)
  · obtain ⟨u, v, z, m, ns, ss, as, rfl, _⟩ := h
    rfl
  · obtain ⟨u, v, z, m, ns, ss, as, rfl, hu, hv, hz, ok, k⟩ := h
    refine ⟨_, PSs.nox <| pss_cons (ps_set (i := 3) scTx.nd rfl (.inl rfl) (pe_lstR (pa_cons (pe_join pe_str (pe_lstR (pa_cons pe_str (StX.pa_star (pv 0) pa_nil)))) pa_nil)))
      <| pss_cons (ps_for PassesOwn.never rfl (pi_tup (pv 1)) (pg_tup (by rfl) (pgs_cons (pg_name (i := 4) scTx.nd rfl (.inl rfl)) (pgs_cons (pg_name (i := 5) scTx.nd rfl (.inl rfl)) pgs_nil)))
          (pss_one (ps_expr (pe_bm PySem.F.plainAttrs_list PySem.F.slot_list_append PySem.F.type_list_append mt_append (pv 3) (pa_cons (pe_joined (.cons pe_str <| .cons (pe_fmt (pv 4)) <| .cons pe_str <| .cons (pe_fmt (pe_call GW hr (by rfl) gW FW.kp bW .nil pass0 (pa_cons (pv 5) pa_nil))) .nil)) pa_nil)))))
      <| pss_cons (ps_for PassesOwn.never rfl (pi_tup (pv 2)) (pg_tup (by rfl) (pgs_cons (pg_name (i := 6) scTx.nd rfl (.inl rfl)) (pgs_cons (pg_name (i := 7) scTx.nd rfl (.inl rfl)) (pgs_cons (pg_name (i := 8) scTx.nd rfl (.inl rfl)) (pgs_cons (pg_name (i := 9) scTx.nd rfl (.inl rfl)) pgs_nil)))))
          (pss_cons (ps_expr (pe_bm PySem.F.plainAttrs_list PySem.F.slot_list_append PySem.F.type_list_append mt_append (pv 3) (pa_cons (pe_joined (.cons pe_str <| .cons (pe_fmt (pv 6)) <| .cons pe_str <| .cons (pe_fmt (pv 7)) .nil)) pa_nil)))
          <| pss_cons (ps_for PassesOwn.never rfl (pi_tup (pv 8)) (pg_name (i := 10) scTx.nd rfl (.inl rfl))
              (pss_one (ps_expr (pe_bm PySem.F.plainAttrs_list PySem.F.slot_list_append PySem.F.type_list_append mt_append (pv 3) (pa_cons (pe_joined (.cons pe_str <| .cons (pe_fmt (pe_call GW hr (by rfl) gW FW.kp bW .nil pass0 (pa_cons (pv 10) pa_nil))) .nil)) pa_nil)))))
          <| pss_one (ps_expr (pe_bm PySem.F.plainAttrs_list PySem.F.slot_list_append PySem.F.type_list_append mt_append (pv 3) (pa_cons (pe_op op_add_str pe_str (pe_join pe_str (pe_lc (own := [("change", 11)]) (g := gName 11) (tt := tYes) rfl scTx.nd (pi_tup (pv 9)) (blkOk_by (N := nTx) (sc := defScope sTx) (by decide +kernel)) (fun _ _ _ _ _ => pg_name (i := 11) scTx.nd rfl (Or.inl rfl)) (fun _ _ _ _ _ => pts_nil)
              (fun _ _ _ _ _ => pe_call GW hr (by rfl) gW FW.kp bW .nil pass0 (pa_cons (pv 11) pa_nil))))) pa_nil)))))
      <| pss_one (ps_ret (pe_join pe_str (pv 3))), ?_⟩
    obtain ⟨a, xs, rfl, hs, ha⟩ := rp_tup (.inl hu)
    have ex := dp_strs ha
    subst ex
    obtain ⟨b, ys, rfl, hb, hbs⟩ := rp_tup (.inl hv)
    obtain ⟨c, zs, rfl, hc, hcs⟩ := rp_tup (.inl hz)
    have ly := dp_len hbs
    have lz := dp_len hcs
    rw [List.length_map] at ly lz
    have n3 := ok.n.three
    have s3 := ok.s.three
    have a5 := ok.a5
    refine ⟨⟨_, rfl⟩, _, rfl, a, _, rfl, .inl hs, ?_⟩
    have hl1 : (V.str "vars" :: (ns.map V.str ++ [])).length ≤ 1000 := by
      rw [List.append_nil, List.length_cons, List.length_map]
      omega
    refine ⟨hl1, fun l1 H1 n1 => ?_⟩
    refine ⟨_, l1, "vars" :: ns, rfl, rfl, .inl (SqL.of ?_), ?_, (show 1 ≤ 1000 by decide), fun l H2 n2 => ?_⟩
    · rw [n1.2.1]
      simp
    · have := lineV_sum ok.n
      rw [show (" " : Str).length = 1 by decide +kernel, List.length_cons]
      omega
    have g2 : Grow H l [lineV ns] H2 := ⟨none_of_same n1.2.2 n2.1, n1.2.2.trans n2.2.2, n2.2.1⟩
    refine ⟨_, rfl, b, rfl, ⟨_, Same.seqT g2.s hb⟩, for_tup (Pv := fun i σ H' => ∃ x4 x5 x6 x7 x8 x9 x10 x11, σ = [some (.ref a), some (.ref b), some (.ref c), some (.ref l), x4, x5, x6, x7, x8, x9, x10, x11] ∧ Grow H l (lineV ns :: (ss.take i).map lineS) H') ⟨_, _, _, _, _, _, _, _, rfl, g2⟩ (fun i σ H' _ ⟨_, _, _, _, _, _, _, _, _, g⟩ => Same.seqT g.s hb) ?_ ?_⟩
    · rintro i x σ H3 ex ⟨x4, x5, x6, x7, x8, x9, x10, x11, rfl, g3⟩
      obtain ⟨sy, es, hx⟩ := map_at hbs ex
      have hsy := ok.s.sy sy (List.mem_of_getElem? es)
      obtain ⟨p, ws, rfl, hp, hws⟩ := rp_tup (.inl hx)
      cases hws with
      | @cons w0 _ _ _ z0 hw1 =>
      cases hw1 with
      | @cons w1 _ _ _ z1 hw2 =>
      cases hw2
      cases z0
      obtain ⟨k1, k2⟩ := say_parts hsy
      have hlen := lineS_len ok.m3 hsy
      have l8 := name_len8 k1
      have lw := words_len (okF_of ok.m3 k2)
      unfold lineS at hlen
      have p1 : (Str.empty ++ "say " : Str).length ≤ sizeLine := by decide +kernel
      have p2 : (Str.empty ++ "say " ++ sy.1 : Str).length ≤ sizeLine := sz9 (by rw [len_app, len_app, e0, show ("say " : Str).length = 4 by decide +kernel]; omega)
      have p3 : (Str.empty ++ "say " ++ sy.1 ++ " " : Str).length ≤ sizeLine := sz9 (by rw [len_app, len_app, len_app, e0, show ("say " : Str).length = 4 by decide +kernel, show (" " : Str).length = 1 by decide +kernel]; omega)
      refine ⟨p, _, rfl, Same.seqT g3.s hp, rfl, _, _, rfl, _, _, rfl, rfl, ?_⟩
      refine ⟨_, rfl, .inl ⟨rfl, _, SqL.of g3.e⟩, _, rfl, p1, _, rfl, .inl ⟨_, rfl, sz9 (by omega), _, rfl, p2, _, rfl, p3, _, rfl, w1, sy.2, rfl, dp_same g3.s _ z1, okF_of ok.m3 k2, fun H4 s4 => .inl ⟨_, rfl, sz9 (by omega), _, rfl, sz9 (by omega), ?_⟩⟩⟩
      have g4 := g3.keep s4
      refine ⟨l, _, _, rfl, rfl, g4.e, small1000 (by rw [List.length_map, List.length_cons, List.length_map, List.length_take]; omega), ?_⟩
      refine ⟨_, _, _, _, _, _, _, _, rfl, ?_⟩
      have g5 := g4.put (lineS sy)
      have e5 : lineV ns :: (ss.take i).map lineS ++ [lineS sy] = lineV ns :: (ss.take (i + 1)).map lineS := by
        rw [List.take_add_one, es, List.cons_append]
        simp
      rw [e5] at g5
      exact g5
    · rintro σ H3 ⟨x4, x5, x6, x7, x8, x9, x10, x11, rfl, g3⟩
      rw [ly, List.take_length] at g3
      refine ⟨_, rfl, c, rfl, ⟨_, Same.seqT g3.s hc⟩, for_tup (Pv := fun i σ H' => ∃ x4 x5 x6 x7 x8 x9 x10 x11, σ = [some (.ref a), some (.ref b), some (.ref c), some (.ref l), x4, x5, x6, x7, x8, x9, x10, x11] ∧ Grow H l (linesS ns ss (as.take i)) H') ⟨_, _, _, _, _, _, _, _, rfl, ?_⟩ (fun i σ H' _ ⟨_, _, _, _, _, _, _, _, _, g⟩ => Same.seqT g.s hc) ?_ ?_⟩
      · have e6 : linesS ns ss (as.take 0) = lineV ns :: ss.map lineS := by
          unfold linesS
          simp
        rw [e6]
        exact g3
      · rintro i x σ H4 ex ⟨x4, x5, x6, x7, x8, x9, x10, x11, rfl, g4⟩
        obtain ⟨ar, ea, hx⟩ := map_at hcs ex
        have har := ok.arm ar (List.mem_of_getElem? ea)
        obtain ⟨p, ws, rfl, hp, hws⟩ := rp_tup (.inl hx)
        cases hws with
        | @cons w0 _ _ _ z0 hw1 =>
        cases hw1 with
        | @cons w1 _ _ _ z1 hw2 =>
        cases hw2 with
        | @cons w2 _ _ _ z2 hw3 =>
        cases hw3 with
        | @cons w3 _ _ _ z3 hw4 =>
        cases hw4
        cases z0
        cases z1
        have hlen := lineB_len har
        have l8 := name_len8 har.s
        have l9 := name_len8 har.t
        unfold lineB at hlen
        have okI : OkT m ns ss (as.take i) := ⟨ok.m3, ok.n, ok.s, by rw [List.length_take]; omega, fun a ha => ok.arm a (List.mem_of_mem_take ha)⟩
        have lI := lines_len okI
        have p1 : (Str.empty ++ "branch " : Str).length ≤ sizeLine := by decide +kernel
        have p2 : (Str.empty ++ "branch " ++ ar.src : Str).length ≤ sizeLine := sz9 (by rw [len_app, len_app, e0, show ("branch " : Str).length = 7 by decide +kernel]; omega)
        have p3 : (Str.empty ++ "branch " ++ ar.src ++ " " : Str).length ≤ sizeLine := sz9 (by rw [len_app, len_app, len_app, e0, show ("branch " : Str).length = 7 by decide +kernel, show (" " : Str).length = 1 by decide +kernel]; omega)
        refine ⟨p, _, rfl, Same.seqT g4.s hp, rfl, _, _, rfl, _, _, rfl, _, _, rfl, _, _, rfl, rfl, ?_⟩
        refine ⟨_, rfl, .inl ⟨rfl, _, SqL.of g4.e⟩, _, rfl, p1, _, rfl, .inl ⟨_, rfl, sz9 (by omega), _, rfl, p2, _, rfl, p3, _, rfl, .inl ⟨_, rfl, sz9 (by omega), _, rfl, sz9 (by omega), ?_⟩⟩⟩
        refine ⟨l, _, _, rfl, rfl, g4.e, small1000 (by rw [List.length_map]; omega), ?_⟩
        have g5 := g4.put (lineB ar)
        obtain ⟨d, ts, rfl, hd, hds⟩ := rp_tup (.inl z2)
        obtain ⟨q, cs, rfl, hq, hqs⟩ := rp_tup (.inl z3)
        have lt := dp_len hds
        have lc := dp_len hqs
        rw [List.length_map] at lt lc
        have t3 := har.t3
        have cm := har.cm
        have m3 := ok.m3
        refine ⟨_, rfl, d, rfl, ⟨_, Same.seqT g5.s hd⟩, for_tup (Pv := fun j σ H' => ∃ x10 x11, σ = [some (.ref a), some (.ref b), some (.ref c), some (.ref l), x4, x5, some (.str ar.src), some (.str ar.tgt), some (.ref d), some (.ref q), x10, x11] ∧ Grow H l (linesS ns ss (as.take i) ++ lineB ar :: (ar.tests.take j).map lineT) H') ⟨_, _, rfl, g5⟩ (fun j σ H' _ ⟨_, _, _, g⟩ => Same.seqT g.s hd) ?_ ?_⟩
        · rintro j x σ H6 ex ⟨x10, x11, rfl, g6⟩
          obtain ⟨te, et, hx⟩ := map_at hds ex
          have hte := okF_of ok.m3 (forms_each har.ts te (List.mem_of_getElem? et))
          have hlt := lineT_len hte
          have lw := words_len hte
          unfold lineT at hlt
          have p4 : (Str.empty ++ "test " : Str).length ≤ sizeLine := by decide +kernel
          refine ⟨_, rfl, .inl ⟨rfl, _, SqL.of g6.e⟩, _, rfl, p4, _, rfl, x, te, rfl, dp_same g6.s _ hx, hte, fun H7 s7 => .inl ⟨_, rfl, sz9 (by omega), _, rfl, sz9 (by omega), ?_⟩⟩
          have g7 := g6.keep s7
          refine ⟨l, _, _, rfl, rfl, g7.e, small1000 (by rw [List.length_map, List.length_append, List.length_cons, List.length_map, List.length_take]; omega), ?_⟩
          refine ⟨_, _, rfl, ?_⟩
          have g8 := g7.put (lineT te)
          have e8 : linesS ns ss (as.take i) ++ lineB ar :: (ar.tests.take j).map lineT ++ [lineT te] = linesS ns ss (as.take i) ++ lineB ar :: (ar.tests.take (j + 1)).map lineT := by
            rw [List.take_add_one, et, List.append_assoc, List.cons_append]
            simp
          rw [e8] at g8
          exact g8
        · rintro σ H6 ⟨x10, x11, rfl, g6⟩
          rw [lt, List.take_length] at g6
          refine ⟨_, rfl, .inl ⟨rfl, _, SqL.of g6.e⟩, ⟨_, rfl⟩, _, rfl, q, rfl, ⟨_, Same.seqT g6.s hq⟩, lcR (walk_tup (xs := cs)) (n1 := by omega) (fun H' s' => Same.seqT (g6.s.trans s') hq) (fun i y _ => ∃ s, ar.turns[i]? = some s ∧ y = .str (wordsS s)) (fun _ _ _ _ _ e => e) ?_ ?_⟩
          · rintro D acc j x Ha Hb K2 hi s nD hD ⟨rfl, ex⟩ kk
            obtain ⟨tu, en, hx⟩ := map_at hqs ex
            have htu := okF_of ok.m3 (forms_each har.cs tu (List.mem_of_getElem? en))
            exact ⟨rfl, _, rfl, x, tu, rfl, dp_same (g6.s.trans s) _ hx, htu, fun Hc sc => kk _ _ sc ⟨tu, en, rfl⟩⟩
          · rintro D H7 ys nw hlen he
            have ey : ys = (ar.turns.map wordsS).map V.str := by
              rw [List.map_map]
              exact list_is (by rw [hlen, lc]) he
            subst ey
            have g7 := g6.keep nw.2.2
            have q1 := turns_sum ok.m3 har
            have q2 := turns_len ok.m3 har
            have q3 := lineE_len ok.m3 har
            unfold lineE at q3
            refine ⟨_, D, ar.turns.map wordsS, rfl, rfl, .inl (SqL.of nw.2.1), ?_, _, _, rfl, rfl, sz9 (by rw [show ("then " : Str).length = 5 by decide +kernel]; omega), ?_⟩
            · rw [show ("; " : Str).length = 2 by decide +kernel, List.length_map]
              omega
            refine ⟨l, _, _, rfl, rfl, g7.e, small1000 (by rw [List.length_map, List.length_append, List.length_cons, List.length_map]; omega), ?_⟩
            refine ⟨_, _, _, _, _, _, _, _, rfl, ?_⟩
            have g8 := g7.put (lineE ar)
            have e8 : linesS ns ss (as.take i) ++ lineB ar :: ar.tests.map lineT ++ [lineE ar] = linesS ns ss (as.take (i + 1)) := by
              rw [List.take_add_one, ea]
              unfold linesS armL
              simp
            rw [e8] at g8
            exact g8
      · rintro σ H4 ⟨x4, x5, x6, x7, x8, x9, x10, x11, rfl, g4⟩
        rw [lz, List.take_length] at g4
        have h1 := lines_sum ok
        have h2 := lines_len ok
        refine ⟨⟨_, rfl⟩, _, rfl, _, l, linesS ns ss as, rfl, rfl, .inl (SqL.of g4.e), ?_, k H4 g4.s⟩
        rw [show ("\n" : Str).length = 1 by decide +kernel]
        omega
end
end Pg
set_option Elab.async false
set_option linter.all false
set_option maxRecDepth 100000
set_option maxHeartbeats 8000000
namespace Nu
open PySem PySem.Spec PyProof.Rows L2 TL
theorem numL_head : ∀ n : Nat, 1 ≤ n → ∃ c r, numL n = c :: r ∧ 49 ≤ c := by
  intro n
  induction n using Nat.strongRecOn with
  | _ n ih =>
    intro h1
    by_cases h : n < 10
    · exact ⟨48 + n, [], numL_lt h, by omega⟩
    · obtain ⟨c, r, e, h2⟩ := ih (n / 10) (by omega) (by omega)
      exact ⟨c, r ++ [48 + n % 10], by rw [numL_step (by omega), e, List.cons_append], h2⟩
/-- the figures of a number's text -/
def figsS (i : Int) : Str := ⟨(numL i.natAbs).toArray⟩
theorem tl_figs (i : Int) : tl (figsS i) = numL i.natAbs := rfl
theorem sub_zero (x y : Str) : Builtin.Str.subAt x y 0 = ((tl x).take y.length == tl y) := by
  unfold Builtin.Str.subAt
  rw [Bool.eq_iff_iff, beq_iff_eq, beq_iff_eq, ← Array.toList_inj, Array.toList_extract]
  simp [TL.tl, List.extract]
theorem rm_num (i : Int) : Txt.removeprefix (numS i) "-" = figsS i := by
  rw [StrLaws.removeprefix_eq, sub_zero]
  have e1 : ("-" : Str).length = 1 := by decide +kernel
  have e2 : tl ("-" : Str) = [45] := by decide +kernel
  rw [e1, e2]
  cases i with
  | ofNat n =>
    have h0 : tl (numS (Int.ofNat n)) = numL n := tl_pos n
    have hf : ((tl (numS (Int.ofNat n))).take 1 == [45]) = false := by
      rw [h0]
      cases h : numL n with
      | nil => rfl
      | cons c r =>
        have hd := numL_digits n c (by rw [h]; exact List.mem_cons_self ..)
        rw [Bool.eq_false_iff]
        intro hh
        have : [c] = [45] := by simpa using hh
        have : c = 45 := by simpa using this
        omega
    rw [hf, Bool.and_false, if_neg Bool.false_ne_true]
    exact ext_tl h0
  | negSucc n =>
    have h0 : tl (numS (Int.negSucc n)) = 45 :: numL (n + 1) := tl_neg n
    have hl : (numS (Int.negSucc n)).length = (numL (n + 1)).length + 1 := by
      rw [len_tl, h0, List.length_cons]
    have h1 : ((tl (numS (Int.negSucc n))).take 1 == [45]) = true := by
      rw [h0]
      rfl
    rw [h1, hl, decide_eq_true (by omega), Bool.and_self, if_pos rfl]
    apply ext_tl
    show ((tl (numS (Int.negSucc n))).drop 1).take _ = _
    rw [h0]
    show (numL (n + 1)).take _ = _
    rw [Nat.add_sub_cancel, List.take_length]
    rfl
end Nu
namespace Pg
open PySem PySem.Spec PyProof.Rows L2 Gd Rl Te Nu TL
abbrev sNu : Stmt := top 25
abbrev sFo : Stmt := top 48
section
variable {P : Program} {w : World} {K : PySem.W.Frag} {mg : Str → Option Value} {base : Heap} {f : Addr} {fd : FuncData}
theorem truths (n : Nat) : ((List.range n).map fun _ => true).all id = true := by
  rw [List.all_eq_true]
  intro b hb
  obtain ⟨i, _, rfl⟩ := List.mem_map.mp hb
  rfl
/-! ### is_numeral -/
def spNu (K : PySem.W.Frag) : Sp := fun vs H Q _ => ∃ i : Int, vs = [.str (numS i)] ∧ (-1000000 ≤ i ∧ i ≤ 1000000) ∧ ∀ H', Same H H' → Q (.bl true) H'
theorem scNu : FnScope ["word", "figures", "sign"] ["word"] (defScope sNu) := ⟨rfl, rfl, rfl, by decide +kernel, rfl, by decide +kernel, by decide +kernel⟩
theorem ok_nu (F : FnP K "is_numeral" sNu f fd) (T : Mo mg) : FnOk P w K mg base CX0 1 f fd ["word"] (spNu K) := by
  obtain ⟨t3, c3⟩ := T.figs
  refine F.ok scNu (fun vs H Q E h => ?_) (fun cdv A outer s H vs Q E hr h => ?_)
  · obtain ⟨v, rfl, _⟩ := h
    rfl
  · obtain ⟨i, rfl, hi, k⟩ := h
    refine ⟨_, PSs.nox <| pss_cons (ps_set (i := 1) scNu.nd rfl (.inl rfl) (pe_bm PySem.F.plainAttrs_str PySem.F.slot_str_removeprefix PySem.F.type_str_removeprefix mt_removeprefix (pv 0) (pa_cons pe_str pa_nil)))
      <| pss_cons (ps_if (PW.pt (pw_or (pt_not (pt_truth (pv 1) (by intro _; rfl))) (pw_or1 (pt_not (pt_val (pe_callB (cr_all rfl) (by rfl) T.all (by decide +kernel) (pa_cons (pe_lc (own := [("sign", 2)]) (g := gName 2) (tt := tYes) rfl scNu.nd (pi_str (pv 1)) (blkOk_by (N := ["word", "figures", "sign"]) (sc := defScope sNu) (by decide +kernel)) (fun _ _ _ _ _ => pg_name (i := 2) scNu.nd rfl (Or.inl rfl)) (fun _ _ _ _ _ => pts_nil)
          (fun _ _ _ _ _ => pe_cmpR op_in_sign (pv 2) (pe_glob (v := .str figS) (by rfl) c3 ⟨_, rfl⟩) (by rfl))) pa_nil))))))) (pss_one (ps_ret pe_bl)) pss_nil)
      <| pss_one (ps_ret (pe_or (pe_cmpR op_ne (pe_item_str (pv 1) pe_int (fun _ _ => rfl)) pe_str (nomark _)) (pe_one (pe_cmpR op_eq (pv 0) pe_str (nomark _))))), ?_⟩
    have hl := num_len hi
    have hf8 : (figsS i).length ≤ 8 := by
      rw [len_tl, tl_figs]
      exact Nat.le_trans (numL_len (n := i.natAbs) (k := 7) (by decide) (by omega)) (by decide)
    have hne : tl (figsS i) ≠ [] := numL_ne _
    have hpos : 1 ≤ (figsS i).length := len1 hne
    refine ⟨_, rfl, rfl, _, _, rfl, rfl, sz9 (by omega), ?_⟩
    rw [rm_num]
    refine ⟨_, rfl, true, ⟨sz9 (by omega), ?_⟩, ?_⟩
    · simp
      omega
    refine iteF ?_
    have hz : (figsS i).cps.size ≤ 1000 := by
      have : (figsS i).cps.size = (figsS i).length := rfl
      omega
    refine ⟨_, rfl, _, rfl, lcR walk_str (n1 := hz) (fun _ _ => trivial) (fun i y _ => y = .bl true) (fun _ _ _ _ _ e => e) ?_ ?_⟩
    · rintro D acc j x Ha Hb K2 hj s nD hD ⟨rfl, c', ec, rfl⟩ kk
      refine ⟨rfl, _, rfl, c', _, rfl, rfl, kk _ _ (Same.refl _) ?_⟩
      have hm : c' ∈ tl (figsS i) := by
        rw [← Array.getElem?_toList] at ec
        exact List.mem_of_getElem? ec
      rw [tl_figs] at hm
      have hd := numL_digits _ c' hm
      have hin : c' ∈ figS.cps.toList := by
        have e4 : figS.cps.toList = [48, 49, 50, 51, 52, 53, 54, 55, 56, 57] := by decide +kernel
        rw [e4]
        simp only [List.mem_cons, List.not_mem_nil, or_false]
        omega
      rw [decide_eq_true hin]
    · rintro D Hb ys nw hlen2 he
      have ey : ys = ((List.range (figsS i).cps.size).map fun _ => true).map V.bl := by
        rw [List.map_map]
        exact list_of hlen2 he
      refine ⟨D, _, rfl, by rw [← ey]; exact SqL.of nw.2.1, _, rfl, ?_⟩
      refine iteBF (notT (truths _)) ?_
      obtain ⟨c, r, hc⟩ : ∃ c r, tl (figsS i) = c :: r := by
        cases h : tl (figsS i) with
        | nil => exact absurd h hne
        | cons c r => exact ⟨c, r, rfl⟩
      have hc0 : (figsS i).cps[(0 : Int).toNat]? = some c := by
        have := hc
        unfold TL.tl at this
        rw [← Array.getElem?_toList, this]
        rfl
      refine ⟨_, rfl, _, 0, c, rfl, rfl, by decide, by decide, by omega, hc0, rfl, _, rfl, ?_⟩
      have kt := k Hb nw.2.2
      by_cases hz0 : i = 0
      · subst hz0
        have ec : c = 48 := by
          rw [tl_figs] at hc
          have : numL (Int.natAbs 0) = [48] := numL_lt (by decide)
          rw [this] at hc
          exact (List.cons.inj hc).1.symm
        subst ec
        refine iteBF (by decide +kernel) ?_
        refine ⟨_, rfl, rfl, ?_⟩
        rw [show decide (V.str (numS 0) = V.str "0") = true by decide +kernel]
        exact kt
      · obtain ⟨c2, r2, e2, h49⟩ := numL_head i.natAbs (by omega)
        rw [tl_figs, e2] at hc
        have ec : c = c2 := (List.cons.inj hc).1.symm
        subst ec
        refine iteBT ?_ kt
        have hne2 : ¬ (V.str ⟨#[c]⟩ = V.str "0") := fun e => by
          have e3 : (⟨#[c]⟩ : Str) = "0" := V.str.inj e
          have e4 : tl (⟨#[c]⟩ : Str) = tl ("0" : Str) := by rw [e3]
          rw [show tl ("0" : Str) = [48] by decide +kernel] at e4
          have : c = 48 := (List.cons.inj (show [c] = [48] from e4)).1
          omega
        simp [hne2]
/-! ### _form_of -/
def spFo (K : PySem.W.Frag) : Sp := fun vs H Q _ => ∃ f : List Int, vs = [.str (wordsS f)] ∧ OkF f ∧ f ≠ [] ∧ ∀ p H', Same H H' → SqT K H' p (f.map V.int) → Q (.ref p) H'
abbrev nFo : List Str := ["text", "words", "longest", "word"]
theorem scFo : FnScope nFo ["text"] (defScope sFo) := ⟨rfl, rfl, rfl, by decide +kernel, rfl, by decide +kernel, by decide +kernel⟩
theorem words_split {f : List Int} (h : f ≠ []) : Txt.split (wordsS f) " " = f.map numS := by
  unfold wordsS
  refine split_join (s := 32) (S := []) (by decide +kernel) (by decide +kernel) (fun e => h (List.map_eq_nil_iff.mp e)) fun p hp => ?_
  obtain ⟨i, _, rfl⟩ := List.mem_map.mp hp
  exact num_free i (.inl (by decide))
theorem ok_fo {fU : Addr} {dU : FuncData} (F : FnP K "_form_of" sFo f fd) (T : Mo mg) (FU : FnP K "is_numeral" sNu fU dU) (gU : mg "is_numeral" = some (.ref fU)) : FnOk P w K mg base CX0 2 f fd ["text"] (spFo K) := by
  have GU : FnOk P w K mg base CX0 1 fU dU ["word"] (spNu K) := ok_nu FU T
  have bU : Binds K dU ["word"] [] := FU.bindsN fun _ _ _ _ _ _ us hl => match us, hl with | [_], _ => rfl
  obtain ⟨t1, c1⟩ := T.mnum
  refine F.ok scFo (fun vs H Q E h => ?_) (fun cdv A outer s H vs Q E hr h => ?_)
  · obtain ⟨v, rfl, _⟩ := h
    rfl
  · obtain ⟨fo, rfl, ok, hne, k⟩ := h
    refine ⟨_, PSs.nox <| pss_cons (ps_set (i := 1) scFo.nd rfl (.inl rfl) (pe_split (pv 0) pe_str))
      <| pss_cons (ps_set (i := 2) scFo.nd rfl (.inr rfl) (pe_callB call_len_str (by rfl) T.len PySem.boot_len (pa_cons (pe_callTy call_str_int (by rfl) T.str (by decide +kernel) (pa_cons (pe_un un_neg (pe_glob (v := .int 1000000) (by rfl) c1 ⟨_, rfl⟩)) pa_nil)) pa_nil)))
      <| pss_cons (ps_if (pt_not (pt_val (pe_callB (cr_all rfl) (by rfl) T.all (by decide +kernel) (pa_cons (pe_lc (own := [("word", 3)]) (g := gName 3) (tt := tYes) rfl scFo.nd (pi_list (pv 1)) (blkOk_by (N := nFo) (sc := defScope sFo) (by decide +kernel)) (fun _ _ _ _ _ => pg_name (i := 3) scFo.nd rfl (Or.inl rfl)) (fun _ _ _ _ _ => pts_nil)
          (fun _ _ _ _ _ => pe_and (pe_cmpR op_le (pe_callB call_len_str (by rfl) T.len PySem.boot_len (pa_cons (pv 3) pa_nil)) (pv 2) (nomark _)) (pe_one (pe_call GU hr (by rfl) gU FU.kp bU .nil pass0 (pa_cons (pv 3) pa_nil))))) pa_nil)))) (pss_one ps_never) pss_nil)
      <| pss_one (ps_ret (pe_callTy call_tuple_of (by rfl) T.tuple (by decide +kernel) (pa_cons (pe_lc (own := [("word", 3)]) (g := gName 3) (tt := tYes) rfl scFo.nd (pi_list (pv 1)) (blkOk_by (N := nFo) (sc := defScope sFo) (by decide +kernel)) (fun _ _ _ _ _ => pg_name (i := 3) scFo.nd rfl (Or.inl rfl)) (fun _ _ _ _ _ => pts_nil)
          (fun _ _ _ _ _ => pe_callTy call_int_str (by rfl) T.int (by decide +kernel) (pa_cons (pv 3) pa_nil))) pa_nil))), ?_⟩
    have lw := words_len ok
    have h4 := ok.four
    refine ⟨_, rfl, ⟨_, rfl⟩, _, _, rfl, rfl, by decide +kernel, sz9 (by omega), fun l nl => ?_⟩
    rw [words_split hne]
    generalize hH1 : upd H l (.lst ((fo.map numS).map V.str)) = H1
    have s1 : Same H H1 := by
      rw [← hH1]
      exact same_new nl
    have e1 : H1 l = some (.lst ((fo.map numS).map V.str)) := by
      rw [← hH1]
      exact upd_same
    have e8 : (Str.ofString (toString (-1000000 : Int))).length = 8 := by decide +kernel
    refine ⟨1000000, rfl, _, rfl, by decide +kernel, _, rfl, sz9 (by rw [e8]; decide), ?_⟩
    rw [e8]
    have lf : ((fo.map numS).map V.str).length ≤ 1000 := by
      rw [List.length_map, List.length_map]
      omega
    have hat : ∀ {i : Nat} {x : V}, ((fo.map numS).map V.str)[i]? = some x → ∃ n, fo[i]? = some n ∧ x = .str (numS n) ∧ (-1000000 ≤ n ∧ n ≤ 1000000) := fun {i x} e => by
      obtain ⟨c, ec, rfl⟩ := strs_at e
      rw [List.getElem?_map] at ec
      cases h : fo[i]? with
      | none =>
        rw [h] at ec
        cases ec
      | some n =>
        rw [h] at ec
        exact ⟨n, rfl, by rw [← Option.some.inj ec], ok.nums n (List.mem_of_getElem? h)⟩
    refine ⟨_, rfl, l, rfl, ⟨_, SqL.of e1⟩, lcR (walk_list (xs := (fo.map numS).map V.str)) (n1 := lf) (fun H' s' => s'.seq (SqL.of e1)) (fun i y _ => y = .bl true) (fun _ _ _ _ _ e => e) ?_ ?_⟩
    · rintro D acc j x Ha Hb K2 hj s nD hD ⟨rfl, ex⟩ kk
      obtain ⟨n, en, rfl, hn⟩ := hat ex
      have hl := num_len hn
      refine ⟨rfl, _, rfl, _, rfl, sz9 (by omega), _, rfl, _, _, rfl, rfl, _, rfl, ?_⟩
      refine iteDY (by omega) ?_
      exact ⟨_, rfl, n, rfl, hn, fun Hc sc => kk _ _ sc rfl⟩
    · rintro D H2 ys nw hlen he
      have ey : ys = ((List.range ((fo.map numS).map V.str).length).map fun _ => true).map V.bl := by
        rw [List.map_map]
        exact list_of hlen he
      refine ⟨D, _, rfl, by rw [← ey]; exact SqL.of nw.2.1, _, rfl, ?_⟩
      refine iteBF (notT (truths _)) ?_
      have e2 := nw.2.2 _ _ e1
      refine ⟨_, rfl, l, rfl, ⟨_, SqL.of e2⟩, lcR (walk_list (xs := (fo.map numS).map V.str)) (n1 := lf) (fun H' s' => s'.seq (SqL.of e2)) (fun i y _ => ∃ s, fo[i]? = some s ∧ y = .int s) (fun _ _ _ _ _ e => e) ?_ ?_⟩
      · rintro D2 acc j x Ha Hb K2 hj s nD hD ⟨rfl, ex⟩ kk
        obtain ⟨n, en, rfl, hn⟩ := hat ex
        have hl := num_len hn
        exact ⟨rfl, _, rfl, _, n, rfl, num_read hn, by omega, kk _ _ (Same.refl _) ⟨n, en, rfl⟩⟩
      · rintro D2 H3 zs nw2 hlen2 he2
        have ez : zs = fo.map V.int := list_is (by rw [hlen2, List.length_map, List.length_map]) he2
        subst ez
        refine ⟨D2, _, rfl, .inl ⟨SqL.of nw2.2.1, fun q nq => ?_⟩⟩
        exact k q _ (s1.trans (nw.2.2.trans (nw2.2.2.trans (same_new nq)))) (SqT.of upd_same)
end
end Pg
set_option Elab.async false
set_option linter.all false
set_option maxRecDepth 100000
set_option maxHeartbeats 8000000
namespace Pg
open PySem PySem.Spec PyProof.Rows L2 Gd Rl Te Nu TL
abbrev sPa : Stmt := top 47
/-! ### the lines, one by one -/
inductive Ln where
  | v (ns : List Str)
  | s (p : Str) (f : List Int)
  | b (s t : Str)
  | t (f : List Int)
  | e (fs : List (List Int))
def txtL : Ln → Str
  | .v ns => lineV ns
  | .s p f => lineS (p, f)
  | .b s t => Str.empty ++ "branch " ++ s ++ " " ++ t
  | .t f => lineT f
  | .e fs => "then " ++ Txt.join "; " (fs.map wordsS)
def armN (a : Arm) : List Ln := .b a.src a.tgt :: (a.tests.map Ln.t ++ [.e a.turns])
def allN (ns : List Str) (ss : List (Str × List Int)) (as : List Arm) : List Ln := .v ns :: ((ss.map fun s => Ln.s s.1 s.2) ++ (as.map armN).flatten)
theorem txt_arm (a : Arm) : (armN a).map txtL = armL a := by
  unfold armN armL
  rw [List.map_cons, List.map_append, List.map_map]
  rfl
theorem txt_all (ns : List Str) (ss : List (Str × List Int)) (as : List Arm) : (allN ns ss as).map txtL = linesS ns ss as := by
  unfold allN linesS
  rw [List.map_cons, List.map_append, List.map_map, List.map_flatten, List.map_map]
  congr 2
  congr 1
  exact List.map_congr_left fun a _ => txt_arm a
/-- what has been read -/
structure Ms where
  names : List Str
  says : List (Str × List Int)
  arms : List Arm
  src : Str
  tgt : Str
  tests : List (List Int)
def stepM (m : Ms) : Ln → Ms
  | .v ns => { m with names := ns }
  | .s p f => { m with says := m.says ++ [(p, f)] }
  | .b s t => { m with src := s, tgt := t, tests := [] }
  | .t f => { m with tests := m.tests ++ [f] }
  | .e fs => { m with arms := m.arms ++ [⟨m.src, m.tgt, m.tests, fs⟩] }
def m0 : Ms := ⟨[], [], [], "", "", []⟩
theorem fold_says (ss : List (Str × List Int)) : ∀ m : Ms, (ss.map fun s => Ln.s s.1 s.2).foldl stepM m = { m with says := m.says ++ ss } := by
  induction ss with
  | nil =>
    intro m
    simp
  | cons s ss ih =>
    intro m
    rw [List.map_cons, List.foldl_cons, ih]
    simp [stepM]
theorem fold_tests (ts : List (List Int)) : ∀ m : Ms, (ts.map Ln.t).foldl stepM m = { m with tests := m.tests ++ ts } := by
  induction ts with
  | nil =>
    intro m
    simp
  | cons s ts ih =>
    intro m
    rw [List.map_cons, List.foldl_cons, ih]
    simp [stepM]
theorem fold_arm (a : Arm) (m : Ms) : (armN a).foldl stepM m = { m with arms := m.arms ++ [a], src := a.src, tgt := a.tgt, tests := a.tests } := by
  unfold armN
  rw [List.foldl_cons, List.foldl_append, fold_tests]
  rfl
theorem fold_arms (as : List Arm) : ∀ m : Ms, ∃ s t te, (as.map armN).flatten.foldl stepM m = { m with arms := m.arms ++ as, src := s, tgt := t, tests := te } := by
  induction as with
  | nil =>
    intro m
    exact ⟨m.src, m.tgt, m.tests, by simp⟩
  | cons a as ih =>
    intro m
    rw [List.map_cons, List.flatten_cons, List.foldl_append, fold_arm]
    obtain ⟨s, t, te, e⟩ := ih { m with arms := m.arms ++ [a], src := a.src, tgt := a.tgt, tests := a.tests }
    exact ⟨s, t, te, by rw [e]; simp⟩
theorem fold_all (ns : List Str) (ss : List (Str × List Int)) (as : List Arm) : ∃ s t te, (allN ns ss as).foldl stepM m0 = ⟨ns, ss, as, s, t, te⟩ := by
  unfold allN
  rw [List.foldl_cons, List.foldl_append, fold_says]
  obtain ⟨s, t, te, e⟩ := fold_arms as { (stepM m0 (.v ns)) with says := (stepM m0 (.v ns)).says ++ ss }
  exact ⟨s, t, te, by rw [e]; rfl⟩
/-! ### what the lines hold -/
def OkL : Ln → Prop
  | .v ns => OkN ns
  | .s p f => nameS p = true ∧ OkF f ∧ f ≠ []
  | .b s t => nameS s = true ∧ nameS t = true
  | .t f => OkF f ∧ f ≠ []
  | .e fs => fs ≠ [] ∧ fs.length ≤ 3 ∧ ∀ f ∈ fs, OkF f ∧ f ≠ []
theorem form_ne {m : Nat} {f : List Int} (h : formB m (fD f) = true) : f ≠ [] := fun e => by
  have := (form_nums h).1
  rw [e] at this
  cases this
theorem all_okL {m : Nat} (h1 : 1 ≤ m) {ns : List Str} {ss : List (Str × List Int)} {as : List Arm} (ok : OkT m ns ss as) : ∀ l ∈ allN ns ss as, OkL l := by
  intro l hl
  unfold allN at hl
  rcases List.mem_cons.mp hl with rfl | hl
  · exact ok.n
  rcases List.mem_append.mp hl with hl | hl
  · obtain ⟨s, hs, rfl⟩ := List.mem_map.mp hl
    obtain ⟨k1, k2⟩ := say_parts (ok.s.sy s hs)
    exact ⟨k1, okF_of ok.m3 k2, form_ne k2⟩
  · obtain ⟨q, hq, hl⟩ := List.mem_flatten.mp hl
    obtain ⟨a, ha, rfl⟩ := List.mem_map.mp hq
    have hA := ok.arm a ha
    unfold armN at hl
    rcases List.mem_cons.mp hl with rfl | hl
    · exact ⟨hA.s, hA.t⟩
    rcases List.mem_append.mp hl with hl | hl
    · obtain ⟨t, ht, rfl⟩ := List.mem_map.mp hl
      have hf := forms_each hA.ts t ht
      exact ⟨okF_of ok.m3 hf, form_ne hf⟩
    · rw [List.mem_singleton.mp hl]
      have hm := hA.cm
      refine ⟨fun e => ?_, by have := ok.m3; omega, fun f hf => ?_⟩
      · rw [e] at hm
        simp at hm
        omega
      · have hf := forms_each hA.cs f hf
        exact ⟨okF_of ok.m3 hf, form_ne hf⟩
/-! ### signs that do not stand in them -/
theorem name_free {z : Str} (h : nameS z = true) {s : Nat} (hs : s ∉ (letS ++ figS).cps.toList) : s ∉ tl z := by
  intro hm
  unfold nameS at h
  cases e : z.cps.toList with
  | nil =>
    unfold TL.tl at hm
    rw [e] at hm
    cases hm
  | cons c r =>
    rw [e] at h
    simp only [Bool.and_eq_true] at h
    have h2 := List.all_eq_true.mp h.2.2
    unfold TL.tl at hm
    rw [e] at hm
    exact hs (of_decide_eq_true (h2 s hm))
theorem joinL_free {s : Nat} {S : List Nat} (hS : s ∉ S) : ∀ {ps : List (List Nat)}, (∀ p ∈ ps, s ∉ p) → s ∉ joinL S ps
  | [], _ => fun h => by cases h
  | [p], h => h p (List.mem_singleton.mpr rfl)
  | p :: q :: r, h => by
    intro hm
    have e : joinL S (p :: q :: r) = p ++ (S ++ joinL S (q :: r)) := rfl
    rw [e] at hm
    rcases List.mem_append.mp hm with hm | hm
    · exact h p (List.mem_cons_self ..) hm
    rcases List.mem_append.mp hm with hm | hm
    · exact hS hm
    · exact joinL_free hS (fun z hz => h z (List.mem_cons_of_mem _ hz)) hm
theorem join_free {s : Nat} {y : Str} {ps : List Str} (hS : s ∉ tl y) (h : ∀ p ∈ ps, s ∉ tl p) : s ∉ tl (Txt.join y ps) := by
  rw [join_eq, tl_join]
  refine joinL_free hS fun p hp => ?_
  obtain ⟨z, hz, rfl⟩ := List.mem_map.mp hp
  exact h z hz
theorem words_free {s : Nat} (hs : s < 32 ∨ 57 < s) (f : List Int) : s ∉ tl (wordsS f) := by
  unfold wordsS
  refine join_free ?_ fun p hp => ?_
  · rw [show tl (" " : Str) = [32] by decide +kernel]
    simp
    omega
  · obtain ⟨i, _, rfl⟩ := List.mem_map.mp hp
    exact num_free i (by omega)
theorem free_app {s : Nat} {x y : Str} (h1 : s ∉ tl x) (h2 : s ∉ tl y) : s ∉ tl (x ++ y) := by
  rw [tl_append]
  intro h
  rcases List.mem_append.mp h with h | h
  · exact h1 h
  · exact h2 h
theorem line_free {l : Ln} (h : OkL l) : 10 ∉ tl (txtL l) := by
  have nf : ∀ {z : Str}, nameS z = true → 10 ∉ tl z := fun h => name_free h (by decide +kernel)
  cases l with
  | v ns =>
    refine join_free (by decide +kernel) fun p hp => ?_
    rcases List.mem_cons.mp hp with rfl | hp
    · decide +kernel
    · exact nf ((show OkN ns from h).nm p hp)
  | s p f => exact free_app (free_app (free_app (free_app (by decide +kernel) (by decide +kernel)) (nf h.1)) (by decide +kernel)) (words_free (by decide) f)
  | b s t => exact free_app (free_app (free_app (free_app (by decide +kernel) (by decide +kernel)) (nf h.1)) (by decide +kernel)) (nf h.2)
  | t f => exact free_app (free_app (by decide +kernel) (by decide +kernel)) (words_free (by decide) f)
  | e fs =>
    refine free_app (by decide +kernel) (join_free (by decide +kernel) fun p hp => ?_)
    obtain ⟨f, _, rfl⟩ := List.mem_map.mp hp
    exact words_free (by decide) f
theorem text_split {m : Nat} (h1 : 1 ≤ m) {ns : List Str} {ss : List (Str × List Int)} {as : List Arm} (ok : OkT m ns ss as) : Txt.split (textS ns ss as) "\n" = (allN ns ss as).map txtL := by
  unfold textS
  rw [← txt_all]
  refine split_join (s := 10) (S := []) (by decide +kernel) (by decide +kernel) (fun e => ?_) fun p hp => ?_
  · unfold allN at e
    rw [List.map_cons] at e
    cases e
  · obtain ⟨l, hl, rfl⟩ := List.mem_map.mp hp
    exact line_free (all_okL h1 ok l hl)
/-! ### the first word of a line, and the rest -/
def wordL : Ln → Str
  | .v _ => "vars"
  | .s _ _ => "say"
  | .b _ _ => "branch"
  | .t _ => "test"
  | .e _ => "then"
def restL : Ln → Str
  | .v ns => Txt.join " " ns
  | .s p f => p ++ " " ++ wordsS f
  | .b s t => s ++ " " ++ t
  | .t f => wordsS f
  | .e fs => Txt.join "; " (fs.map wordsS)
theorem line_cut {l : Ln} (h : OkL l) : txtL l = wordL l ++ " " ++ restL l := by
  cases l with
  | v ns =>
    cases ns with
    | nil => exact absurd (show OkN [] from h).one (by decide)
    | cons n r =>
      show Txt.join " " ("vars" :: n :: r) = "vars" ++ " " ++ Txt.join " " (n :: r)
      rw [join_eq, join_eq]
      rfl
  | s p f =>
    apply ext_tl
    show tl (Str.empty ++ "say " ++ p ++ " " ++ wordsS f) = tl ("say" ++ " " ++ (p ++ " " ++ wordsS f))
    simp only [tl_append, List.append_assoc]
    rw [show tl ("say " : Str) = tl ("say" : Str) ++ tl (" " : Str) by decide +kernel, List.append_assoc]
    rfl
  | b s t =>
    apply ext_tl
    show tl (Str.empty ++ "branch " ++ s ++ " " ++ t) = tl ("branch" ++ " " ++ (s ++ " " ++ t))
    simp only [tl_append, List.append_assoc]
    rw [show tl ("branch " : Str) = tl ("branch" : Str) ++ tl (" " : Str) by decide +kernel, List.append_assoc]
    rfl
  | t f =>
    apply ext_tl
    show tl (Str.empty ++ "test " ++ wordsS f) = tl ("test" ++ " " ++ wordsS f)
    simp only [tl_append, List.append_assoc]
    rw [show tl ("test " : Str) = tl ("test" : Str) ++ tl (" " : Str) by decide +kernel, List.append_assoc]
    rfl
  | e fs =>
    apply ext_tl
    show tl ("then " ++ Txt.join "; " (fs.map wordsS)) = tl ("then" ++ " " ++ Txt.join "; " (fs.map wordsS))
    simp only [tl_append, List.append_assoc]
    rw [show tl ("then " : Str) = tl ("then" : Str) ++ tl (" " : Str) by decide +kernel, List.append_assoc]
theorem word_free (l : Ln) : 32 ∉ tl (wordL l) := by
  cases l with
  | v _ => exact (by decide +kernel : 32 ∉ tl ("vars" : Str))
  | s _ _ => exact (by decide +kernel : 32 ∉ tl ("say" : Str))
  | b _ _ => exact (by decide +kernel : 32 ∉ tl ("branch" : Str))
  | t _ => exact (by decide +kernel : 32 ∉ tl ("test" : Str))
  | e _ => exact (by decide +kernel : 32 ∉ tl ("then" : Str))
theorem line_part {l : Ln} (h : OkL l) : Txt.partition (txtL l) " " = (wordL l, (" " : Str), restL l) := by
  rw [line_cut h]
  exact partition_app (s := 32) (S := []) (by decide +kernel) (word_free l)
theorem two_part {a b : Str} (h : nameS a = true) : Txt.partition (a ++ " " ++ b) " " = (a, (" " : Str), b) :=
  partition_app (s := 32) (S := []) (by decide +kernel) (name_free h (by decide +kernel))
theorem names_split {ns : List Str} (h : OkN ns) : Txt.split (Txt.join " " ns) " " = ns :=
  split_join (y := " ") (s := 32) (S := []) (by decide +kernel) (by decide +kernel) (fun e => absurd h.one (by rw [e]; decide)) fun p hp => name_free (h.nm p hp) (by decide +kernel)
theorem turns_split {fs : List (List Int)} (h : fs ≠ []) : Txt.split (Txt.join "; " (fs.map wordsS)) "; " = fs.map wordsS := by
  refine split_join (s := 59) (S := [32]) (by decide +kernel) (by decide +kernel) (fun e => h (List.map_eq_nil_iff.mp e)) fun p hp => ?_
  obtain ⟨f, _, rfl⟩ := List.mem_map.mp hp
  exact words_free (by decide) f
end Pg
set_option Elab.async false
set_option linter.all false
set_option maxRecDepth 100000
set_option maxHeartbeats 16000000
namespace Pg
open PySem PySem.Spec PyProof.Rows L2 Gd Rl Te Nu TL
/-! ### data without lists stays where a list is changed -/
mutual
def nolD : PyData → Bool
  | .list _ => false
  | .tuple ds => nolAll ds
  | _ => true
def nolAll : List PyData → Bool
  | [] => true
  | d :: ds => nolD d && nolAll ds
end
theorem seqT_upd {K : PySem.W.Frag} {H : Hp} {l a : Addr} {X Y xs : List V} (hl : H l = some (.lst X)) (h : SqT K H a xs) : SqT K (upd H l (.lst Y)) a xs := by
  rcases h with (h | ⟨o, h⟩) | h
  · refine .inl (.inl ?_)
    rw [upd_ne (fun e => by rw [e, hl] at h; cases h)]
    exact h
  · refine .inl (.inr ⟨o, ?_⟩)
    rw [upd_ne (fun e => by rw [e, hl] at h; cases h)]
    exact h
  · exact .inr h
mutual
theorem dp_upd {K : PySem.W.Frag} {H : Hp} {l : Addr} {X Y : List V} (hl : H l = some (.lst X)) : ∀ (d : PyData) {v : V}, nolD d = true → Dp K H v d → Dp K (upd H l (.lst Y)) v d
  | .none, _, _, h => by cases h; exact .non
  | .bool b, _, _, h => by cases h; exact .bl b
  | .int i, _, _, h => by cases h; exact .int i
  | .str z, _, _, h => by cases h; exact .str z
  | .list ds, _, n, _ => by cases n
  | .tuple ds, _, n, h => by
    cases h with
    | tup hs ha => exact .tup (seqT_upd hl hs) (dp_updAll hl ds (by rw [nolD] at n; exact n) ha)
  | .dict _, _, _, h => by cases h
theorem dp_updAll {K : PySem.W.Frag} {H : Hp} {l : Addr} {X Y : List V} (hl : H l = some (.lst X)) : ∀ (ds : List PyData) {vs : List V}, nolAll ds = true → DpAll K H vs ds → DpAll K (upd H l (.lst Y)) vs ds
  | [], _, _, h => by cases h; exact .nil
  | d :: ds, _, n, h => by
    rw [nolAll, Bool.and_eq_true] at n
    cases h with
    | cons h1 h2 => exact .cons (dp_upd hl d n.1 h1) (dp_updAll hl ds n.2 h2)
end
theorem nol_all : ∀ {l : List PyData}, (∀ d ∈ l, nolD d = true) → nolAll l = true
  | [], _ => rfl
  | d :: l, h => by
    rw [nolAll, h d (List.mem_cons_self ..), nol_all fun e he => h e (List.mem_cons_of_mem _ he)]
    rfl
theorem nol_map {α : Type} {g : α → PyData} (h : ∀ a, nolD (g a) = true) (l : List α) : nolAll (l.map g) = true := nol_all fun d hd => by
  obtain ⟨a, _, rfl⟩ := List.mem_map.mp hd
  exact h a
theorem nol_f (f : List Int) : nolD (fD f) = true := by
  unfold fD
  rw [nolD]
  exact nol_map (fun _ => rfl) f
theorem nol_fs (fs : List (List Int)) : nolD (.tuple (fs.map fD)) = true := by
  rw [nolD]
  exact nol_map nol_f fs
theorem nol_say (s : Str × List Int) : nolD (sayD s) = true := by
  unfold sayD
  simp only [nolD, nolAll, nol_f]
  rfl
theorem nol_four {a b c d : PyData} (h1 : nolD a = true) (h2 : nolD b = true) (h3 : nolD c = true) (h4 : nolD d = true) : nolD (.tuple [a, b, c, d]) = true := by
  simp only [nolD, nolAll, h1, h2, h3, h4]
  rfl
theorem nol_arm (a : Arm) : nolD (armD a) = true := nol_four rfl rfl (nol_fs _) (nol_fs _)
theorem dp_snoc {K : PySem.W.Frag} {H : Hp} {v : V} {d : PyData} (hd : Dp K H v d) : ∀ {vs : List V} {ds : List PyData}, DpAll K H vs ds → DpAll K H (vs ++ [v]) (ds ++ [d])
  | _, _, .nil => .cons hd .nil
  | _, _, .cons a b => .cons a (dp_snoc hd b)
/-! ### what stands while the lines are read -/
structure LstD (K : PySem.W.Frag) (H0 H : Hp) (l : Addr) (ds : List PyData) : Prop where
  n : H0 l = none
  x : ∃ X, H l = some (.lst X) ∧ DpAll K H X ds
theorem LstD.same {K : PySem.W.Frag} {H0 H H' : Hp} {l : Addr} {ds : List PyData} (d : LstD K H0 H l ds) (s : Same H H') : LstD K H0 H' l ds :=
  ⟨d.n, d.x.elim fun X h => ⟨X, s _ _ h.1, dp_sameAll s _ h.2⟩⟩
theorem LstD.other {K : PySem.W.Frag} {H0 H : Hp} {l k : Addr} {ds : List PyData} {X Y : List V} (d : LstD K H0 H l ds) (n : nolAll ds = true) (hk : H k = some (.lst X)) (ne : l ≠ k) : LstD K H0 (upd H k (.lst Y)) l ds :=
  ⟨d.n, d.x.elim fun Z h => ⟨Z, by rw [upd_ne ne]; exact h.1, dp_updAll hk _ n h.2⟩⟩
theorem LstD.put {K : PySem.W.Frag} {H0 H : Hp} {l : Addr} {ds : List PyData} {X : List V} {v : V} {e : PyData} (d : LstD K H0 H l ds) (n : nolAll ds = true) (hl : H l = some (.lst X)) (he : Dp K H v e) (ne : nolD e = true) : LstD K H0 (upd H l (.lst (X ++ [v]))) l (ds ++ [e]) := by
  obtain ⟨Z, h1, h2⟩ := d.x
  rw [hl] at h1
  cases h1
  exact ⟨d.n, _, upd_same, dp_snoc (dp_upd hl _ ne he) (dp_updAll hl _ n h2)⟩
structure RepS (K : PySem.W.Frag) (H0 H : Hp) (m : Ms) (a l1 l2 e l3 lL : Addr) (L : List Str) : Prop where
  s : Same H0 H
  na : SqT K H a (m.names.map V.str)
  d1 : LstD K H0 H l1 (m.says.map sayD)
  d2 : LstD K H0 H l2 (m.arms.map armD)
  se : SqT K H e [.str m.src, .str m.tgt]
  d3 : LstD K H0 H l3 (m.tests.map fD)
  ll : H lL = some (.lst (L.map V.str))
  n12 : l1 ≠ l2
  n13 : l1 ≠ l3
  n23 : l2 ≠ l3
  nL1 : lL ≠ l1
  nL2 : lL ≠ l2
  nL3 : lL ≠ l3
section
variable {K : PySem.W.Frag} {H0 H H' : Hp} {m : Ms} {a l1 l2 e l3 lL : Addr} {L : List Str}
theorem RepS.same (r : RepS K H0 H m a l1 l2 e l3 lL L) (s : Same H H') : RepS K H0 H' m a l1 l2 e l3 lL L :=
  ⟨r.s.trans s, Same.seqT s r.na, r.d1.same s, r.d2.same s, Same.seqT s r.se, r.d3.same s, s _ _ r.ll, r.n12, r.n13, r.n23, r.nL1, r.nL2, r.nL3⟩
theorem keep_new {l : Addr} {Y : List V} (s : Same H0 H) (n : H0 l = none) : Same H0 (upd H l (.lst Y)) := fun b o h => by
  rw [upd_ne (ne_of_none h n)]
  exact s _ _ h
theorem RepS.put1 {X : List V} {v : V} {p : Str} {f : List Int} (r : RepS K H0 H m a l1 l2 e l3 lL L) (h : H l1 = some (.lst X)) (hv : Dp K H v (sayD (p, f))) : RepS K H0 (upd H l1 (.lst (X ++ [v]))) (stepM m (.s p f)) a l1 l2 e l3 lL L :=
  ⟨keep_new r.s r.d1.n, seqT_upd h r.na, by
    show LstD _ _ _ _ ((m.says ++ [(p, f)]).map sayD)
    rw [List.map_append]
    exact r.d1.put (nol_map nol_say _) h hv (nol_say _), r.d2.other (nol_map nol_arm _) h r.n12.symm, seqT_upd h r.se, r.d3.other (nol_map nol_f _) h r.n13.symm, by rw [upd_ne r.nL1]; exact r.ll, r.n12, r.n13, r.n23, r.nL1, r.nL2, r.nL3⟩
theorem RepS.put2 {X : List V} {v : V} {fs : List (List Int)} (r : RepS K H0 H m a l1 l2 e l3 lL L) (h : H l2 = some (.lst X)) (hv : Dp K H v (armD ⟨m.src, m.tgt, m.tests, fs⟩)) : RepS K H0 (upd H l2 (.lst (X ++ [v]))) (stepM m (.e fs)) a l1 l2 e l3 lL L :=
  ⟨keep_new r.s r.d2.n, seqT_upd h r.na, r.d1.other (nol_map nol_say _) h r.n12, by
    show LstD _ _ _ _ ((m.arms ++ [(⟨m.src, m.tgt, m.tests, fs⟩ : Arm)]).map armD)
    rw [List.map_append]
    exact r.d2.put (nol_map nol_arm _) h hv (nol_arm _), seqT_upd h r.se, r.d3.other (nol_map nol_f _) h r.n23.symm, by rw [upd_ne r.nL2]; exact r.ll, r.n12, r.n13, r.n23, r.nL1, r.nL2, r.nL3⟩
theorem RepS.put3 {X : List V} {v : V} {f : List Int} (r : RepS K H0 H m a l1 l2 e l3 lL L) (h : H l3 = some (.lst X)) (hv : Dp K H v (fD f)) : RepS K H0 (upd H l3 (.lst (X ++ [v]))) (stepM m (.t f)) a l1 l2 e l3 lL L :=
  ⟨keep_new r.s r.d3.n, seqT_upd h r.na, r.d1.other (nol_map nol_say _) h r.n13, r.d2.other (nol_map nol_arm _) h r.n23, seqT_upd h r.se, by
    show LstD _ _ _ _ ((m.tests ++ [f]).map fD)
    rw [List.map_append]
    exact r.d3.put (nol_map nol_f _) h hv (nol_f _), by rw [upd_ne r.nL3]; exact r.ll, r.n12, r.n13, r.n23, r.nL1, r.nL2, r.nL3⟩
end
theorem dp_ints {K : PySem.W.Frag} {H : Hp} {p : Addr} {f : List Int} (h : SqT K H p (f.map V.int)) : Dp K H (.ref p) (fD f) := by
  refine .tup h ?_
  clear h
  induction f with
  | nil => exact .nil
  | cons i f ih => exact .cons (.int i) ih
theorem dp_names {K : PySem.W.Frag} {H : Hp} {p : Addr} {ns : List Str} (h : SqT K H p (ns.map V.str)) : Dp K H (.ref p) (namesD ns) := by
  refine .tup h ?_
  clear h
  induction ns with
  | nil => exact .nil
  | cons i f ih => exact .cons (.str i) ih
theorem lt24 {n : Nat} (h : n ≤ 10000) : n + 2 ≤ sizeLine := by
  have : sizeLine = 16777216 := by decide
  omega
theorem seqT_del {K : PySem.W.Frag} {H : Hp} {l a : Addr} {X xs : List V} (hl : H l = some (.lst X)) (h : SqT K H a xs) : SqT K (delH H l) a xs := by
  rcases h with (h | ⟨o, h⟩) | h
  · refine .inl (.inl ?_)
    rw [delH_ne (fun e => by rw [e, hl] at h; cases h)]
    exact h
  · refine .inl (.inr ⟨o, ?_⟩)
    rw [delH_ne (fun e => by rw [e, hl] at h; cases h)]
    exact h
  · exact .inr h
def cnt (m : Ms) : Nat := m.says.length + m.arms.length + m.tests.length
theorem cnt_step (m : Ms) (l : Ln) : cnt (stepM m l) ≤ cnt m + 1 := by
  cases l <;> simp only [cnt, stepM, List.length_append, List.length_cons, List.length_nil] <;> omega
theorem cnt_fold (ls : List Ln) : ∀ m : Ms, cnt (ls.foldl stepM m) ≤ cnt m + ls.length := by
  induction ls with
  | nil => exact fun m => Nat.le_refl _
  | cons l ls ih =>
    intro m
    rw [List.foldl_cons, List.length_cons]
    have h1 := ih (stepM m l)
    have h2 := cnt_step m l
    omega
theorem del_same {H : Hp} {D : Addr} : Same (delH H D) H := fun b u e => by
  by_cases q : b = D
  · rw [q, delH_same] at e
    cases e
  · rw [delH_ne q] at e
    exact e
theorem neV {a b : Str} (h : tl a ≠ tl b) : ¬ (V.str a = V.str b) := fun e => h (by rw [V.str.inj e])
section
variable {P : Program} {w : World} {K : PySem.W.Frag} {mg : Str → Option Value} {base : Heap} {f : Addr} {fd : FuncData}
def spPa (K : PySem.W.Frag) : Sp := fun vs H Q _ => ∃ (m : Nat) (ns : List Str) (ss : List (Str × List Int)) (as : List Arm), vs = [.str (textS ns ss as)] ∧ 1 ≤ m ∧ OkT m ns ss as ∧
  ∀ p a b c H', Same H H' → SqT K H' p [.ref a, .ref b, .ref c] → Dp K H' (.ref a) (namesD ns) → Dp K H' (.ref b) (saysD ss) → Dp K H' (.ref c) (armsD as) → Q (.ref p) H'
abbrev nPa : List Str := ["text", "names", "sayings", "branches", "ends", "tests", "line", "word", "_", "rest", "place", "numbers", "source", "target", "changes", "part"]
theorem scPa : FnScope nPa ["text"] (defScope sPa) := ⟨rfl, rfl, rfl, by decide +kernel, rfl, by decide +kernel, by decide +kernel⟩
theorem ok_pa {fO fU : Addr} {dO dU : FuncData} (F : FnP K "_parts_of" sPa f fd) (T : Mo mg) (FO : FnP K "_form_of" sFo fO dO) (gO : mg "_form_of" = some (.ref fO)) (FU : FnP K "is_numeral" sNu fU dU) (gU : mg "is_numeral" = some (.ref fU)) : FnOk P w K mg base CX0 3 f fd ["text"] (spPa K) := by
  have GO : FnOk P w K mg base CX0 2 fO dO ["text"] (spFo K) := ok_fo FO T FU gU
  have bO : Binds K dO ["text"] [] := FO.bindsN fun _ _ _ _ _ _ us hl => match us, hl with | [_], _ => rfl
  refine F.ok scPa (fun vs H Q E h => ?_) (fun cdv A outer s H vs Q E hr h => ?_)
  · obtain ⟨m, ns, ss, as, rfl, _⟩ := h
    rfl
  · obtain ⟨m, ns, ss, as, rfl, m1, ok, k⟩ := h
    refine ⟨_, PSs.nox <| pss_cons (ps_set (i := 1) scPa.nd rfl (.inl rfl) (pe_tupR pa_nil))
      <| pss_cons (ps_set (i := 2) scPa.nd rfl (.inl rfl) (pe_lstR pa_nil))
      <| pss_cons (ps_set (i := 3) scPa.nd rfl (.inl rfl) (pe_lstR pa_nil))
      <| pss_cons (ps_set (i := 4) scPa.nd rfl (.inl rfl) (pe_tupR (pa_cons pe_str (pa_cons pe_str pa_nil))))
      <| pss_cons (ps_set (i := 5) scPa.nd rfl (.inl rfl) (pe_lstR pa_nil))
      <| pss_cons (ps_for PassesOwn.never rfl (pi_list (pe_split (pv 0) pe_str)) (pg_name (i := 6) scPa.nd rfl (.inl rfl))
          (pss_cons (ps_asg (pe_partition (pv 6) pe_str) (pg_tup (by rfl) (pgs_cons (pg_name (i := 7) scPa.nd rfl (.inl rfl)) (pgs_cons (pg_name (i := 8) scPa.nd rfl (.inl rfl)) (pgs_cons (pg_name (i := 9) scPa.nd rfl (.inl rfl)) pgs_nil)))))
          <| pss_one (ps_if (pt_cmpR op_eq (pv 7) pe_str (nomark _))
              (pss_one (ps_set (i := 1) scPa.nd rfl (.inl rfl) (pe_callTy call_tuple_of (by rfl) T.tuple (by decide +kernel) (pa_cons (pe_split (pv 9) pe_str) pa_nil))))
              (pss_one (ps_if (pt_cmpR op_eq (pv 7) pe_str (nomark _))
                (pss_cons (ps_asg (pe_partition (pv 9) pe_str) (pg_tup (by rfl) (pgs_cons (pg_name (i := 10) scPa.nd rfl (.inl rfl)) (pgs_cons (pg_name (i := 8) scPa.nd rfl (.inl rfl)) (pgs_cons (pg_name (i := 11) scPa.nd rfl (.inl rfl)) pgs_nil)))))
                <| pss_one (ps_expr (pe_bm PySem.F.plainAttrs_list PySem.F.slot_list_append PySem.F.type_list_append mt_append (pv 2) (pa_cons (pe_tupR (pa_cons (pv 10) (pa_cons (pe_call GO hr (by rfl) gO FO.kp bO .nil pass0 (pa_cons (pv 11) pa_nil)) pa_nil))) pa_nil))))
                (pss_one (ps_if (pt_cmpR op_eq (pv 7) pe_str (nomark _))
                  (pss_cons (ps_asg (pe_partition (pv 9) pe_str) (pg_tup (by rfl) (pgs_cons (pg_name (i := 12) scPa.nd rfl (.inl rfl)) (pgs_cons (pg_name (i := 8) scPa.nd rfl (.inl rfl)) (pgs_cons (pg_name (i := 13) scPa.nd rfl (.inl rfl)) pgs_nil)))))
                  <| pss_cons (ps_set (i := 4) scPa.nd rfl (.inl rfl) (pe_tupR (pa_cons (pv 12) (pa_cons (pv 13) pa_nil))))
                  <| pss_one (ps_set (i := 5) scPa.nd rfl (.inl rfl) (pe_lstR pa_nil)))
                  (pss_one (ps_if (pt_cmpR op_eq (pv 7) pe_str (nomark _))
                    (pss_one (ps_expr (pe_bm PySem.F.plainAttrs_list PySem.F.slot_list_append PySem.F.type_list_append mt_append (pv 5) (pa_cons (pe_call GO hr (by rfl) gO FO.kp bO .nil pass0 (pa_cons (pv 9) pa_nil)) pa_nil))))
                    (pss_one (ps_if (pt_cmpR op_eq (pv 7) pe_str (nomark _))
                      (pss_cons (ps_setLc (i := 14) (own := [("part", 15)]) (g := gName 15) (tt := tYes) rfl scPa.nd rfl rfl (sw_true rfl rfl rfl (by decide +kernel)) (pi_list (pe_split (pv 9) pe_str)) (blkOk_by (N := nPa) (sc := defScope sPa) (by decide +kernel)) (fun _ _ _ _ _ => pg_name (i := 15) scPa.nd rfl (Or.inl rfl)) (fun _ _ _ _ _ => pts_nil)
                          (fun _ _ _ _ _ => pe_call GO hr (by rfl) gO FO.kp bO .nil pass0 (pa_cons (pv 15) pa_nil)))
                      <| pss_one (ps_expr (pe_bm PySem.F.plainAttrs_list PySem.F.slot_list_append PySem.F.type_list_append mt_append (pv 3) (pa_cons (pe_tupR (StX.pa_star (pv 4) (pa_cons (pe_callTy call_tuple_of (by rfl) T.tuple (by decide +kernel) (pa_cons (pv 5) pa_nil)) (pa_cons (pe_callTy call_tuple_of (by rfl) T.tuple (by decide +kernel) (pa_cons (pv 14) pa_nil)) pa_nil)))) pa_nil))))
                      pss_nil)))))))))))
      <| pss_one (ps_ret (pe_tupR (pa_cons (pv 1) (pa_cons (pe_callTy call_tuple_of (by rfl) T.tuple (by decide +kernel) (pa_cons (pv 2) pa_nil)) (pa_cons (pe_callTy call_tuple_of (by rfl) T.tuple (by decide +kernel) (pa_cons (pv 3) pa_nil)) pa_nil))))), ?_⟩
    refine ⟨(show 0 ≤ 1000 by decide), fun a H1 n1 => ⟨(show 0 ≤ 1000 by decide), fun l1 H2 n2 => ⟨(show 0 ≤ 1000 by decide), fun l2 H3 n3 => ⟨(show 2 ≤ 1000 by decide), fun e H4 n4 => ⟨(show 0 ≤ 1000 by decide), fun l3 H5 n5 => ?_⟩⟩⟩⟩⟩
    have s45 := n5.2.2
    have s35 := n4.2.2.trans s45
    have s25 := n3.2.2.trans s35
    have s15 := n2.2.2.trans s25
    have s05 := n1.2.2.trans s15
    have tlen := text_len ok
    refine ⟨_, rfl, ⟨_, rfl⟩, _, _, rfl, rfl, by decide +kernel, lt24 (by omega), fun lL nL => ?_⟩
    rw [text_split m1 ok]
    have okl := all_okL m1 ok
    have llen : (allN ns ss as).length ≤ 29 := by
      have := lines_len ok
      rw [← txt_all, List.length_map] at this
      exact this
    have z1 : H l1 = none := none_of_same n1.2.2 n2.1
    have z2 : H l2 = none := none_of_same (n1.2.2.trans n2.2.2) n3.1
    have z3 : H l3 = none := none_of_same (n1.2.2.trans (n2.2.2.trans (n3.2.2.trans n4.2.2))) n5.1
    have y1 := s25 _ _ n2.2.1
    have y2 := s35 _ _ n3.2.1
    have y3 := n5.2.1
    have r0 : RepS K H (upd H5 lL (.lst (((allN ns ss as).map txtL).map V.str))) m0 a l1 l2 e l3 lL ((allN ns ss as).map txtL) := by
      have sN := same_new (o := .lst (((allN ns ss as).map txtL).map V.str)) nL
      exact ⟨s05.trans sN, SqT.of (sN _ _ (s15 _ _ n1.2.1)), ⟨z1, _, sN _ _ y1, .nil⟩, ⟨z2, _, sN _ _ y2, .nil⟩, SqT.of (sN _ _ (s45 _ _ n4.2.1)), ⟨z3, _, sN _ _ y3, .nil⟩, upd_same,
        ne_of_none n2.2.1 n3.1, ne_of_none (n4.2.2 _ _ (n3.2.2 _ _ n2.2.1)) n5.1, ne_of_none (n4.2.2 _ _ n3.2.1) n5.1, (ne_of_none y1 nL).symm, (ne_of_none y2 nL).symm, (ne_of_none y3 nL).symm⟩
    generalize upd H5 lL (.lst (((allN ns ss as).map txtL).map V.str)) = H6 at r0
    refine ⟨lL, rfl, ⟨_, SqL.of r0.ll⟩, for_list (xs := ((allN ns ss as).map txtL).map V.str) (fun i σ H' => ∃ a l1 l2 e l3 x6 x7 x8 x9 x10 x11 x12 x13 x14 x15, σ = [some (.str (textS ns ss as)), some (.ref a), some (.ref l1), some (.ref l2), some (.ref e), some (.ref l3), x6, x7, x8, x9, x10, x11, x12, x13, x14, x15] ∧ RepS K H H' (((allN ns ss as).take i).foldl stepM m0) a l1 l2 e l3 lL ((allN ns ss as).map txtL)) ⟨_, _, _, _, _, _, _, _, _, _, _, _, _, _, _, rfl, r0⟩ (fun i σ H' _ ⟨_, _, _, _, _, _, _, _, _, _, _, _, _, _, _, _, r⟩ => SqL.of r.ll) ?_ ?_⟩
    · rintro i x σ H7 ex ⟨a, l1, l2, e, l3, x6, x7, x8, x9, x10, x11, x12, x13, x14, x15, rfl, r⟩
      rw [List.map_map, List.getElem?_map] at ex
      obtain ⟨ln, eln, rfl⟩ : ∃ ln, (allN ns ss as)[i]? = some ln ∧ x = .str (txtL ln) := by
        cases h : (allN ns ss as)[i]? with
        | none =>
          rw [h] at ex
          cases ex
        | some ln =>
          rw [h] at ex
          exact ⟨ln, rfl, (Option.some.inj ex).symm⟩
      have hok := okl ln (List.mem_of_getElem? eln)
      have ef : ((allN ns ss as).take (i + 1)).foldl stepM m0 = stepM (((allN ns ss as).take i).foldl stepM m0) ln := by
        rw [List.take_add_one, eln, List.foldl_append]
        rfl
      rw [ef]
      have hlen : (txtL ln).length ≤ 119 := by
        refine lines_each ok _ ?_
        rw [← txt_all]
        exact List.mem_map_of_mem (List.mem_of_getElem? eln)
      have hcnt := cnt_fold ((allN ns ss as).take i) m0
      rw [List.length_take] at hcnt
      have hc0 : cnt m0 = 0 := rfl
      generalize ((allN ns ss as).take i).foldl stepM m0 = m at r hcnt ⊢
      have hcm : cnt m ≤ 29 := by omega
      unfold cnt at hcm
      clear ef eln ex
      refine ⟨_, rfl, ⟨_, rfl⟩, _, _, rfl, rfl, by decide +kernel, sz9 (by omega), fun p np => ?_⟩
      rw [line_part hok]
      have hcut := line_cut hok
      have hrest : (restL ln).length ≤ 119 := by
        rw [hcut, len_app, len_app] at hlen
        omega
      refine ⟨p, _, rfl, SqT.of upd_same, rfl, _, _, rfl, _, _, rfl, _, _, rfl, rfl, ?_⟩
      have r1 := r.same (same_new (o := .tup [.str (wordL ln), .str " ", .str (restL ln)]) np)
      generalize upd H7 p (.tup [.str (wordL ln), .str " ", .str (restL ln)]) = H8 at r1
      refine ⟨_, rfl, rfl, _, rfl, ?_⟩
      cases ln with
      | v ns2 =>
        refine iteDY rfl ?_
        have hok2 : OkN ns2 := hok
        refine ⟨_, rfl, ⟨_, rfl⟩, _, _, rfl, rfl, by decide +kernel, lt24 (Nat.le_trans hrest (by decide)), fun q nq => ?_⟩
        show ∃ p2 ys, _
        rw [show restL (.v ns2) = Txt.join " " ns2 from rfl, names_split hok2]
        refine ⟨q, _, rfl, .inl ⟨SqL.of upd_same, fun q2 nq2 => ?_⟩⟩
        refine ⟨_, _, _, _, _, _, _, _, _, _, _, _, _, _, _, rfl, ?_⟩
        have r2 := r1.same ((same_new nq).trans (same_new (o := .tup (ns2.map V.str)) nq2))
        exact ⟨r2.s, SqT.of upd_same, r2.d1, r2.d2, r2.se, r2.d3, r2.ll, r2.n12, r2.n13, r2.n23, r2.nL1, r2.nL2, r2.nL3⟩
      | s pl fo =>
        refine iteDN (neV (show tl ("say" : Str) ≠ tl ("vars" : Str) by decide +kernel)) ?_
        refine ⟨_, rfl, rfl, _, rfl, ?_⟩
        refine iteDY rfl ?_
        refine ⟨_, rfl, ⟨_, rfl⟩, _, _, rfl, rfl, by decide +kernel, sz9 (Nat.le_trans hrest (by decide)), fun q nq => ?_⟩
        rw [show restL (.s pl fo) = pl ++ " " ++ wordsS fo from rfl, two_part hok.1]
        refine ⟨q, _, rfl, SqT.of upd_same, rfl, _, _, rfl, _, _, rfl, _, _, rfl, rfl, ?_⟩
        have r2 := r1.same (same_new (o := .tup [.str pl, .str " ", .str (wordsS fo)]) nq)
        generalize upd H8 q (.tup [.str pl, .str " ", .str (wordsS fo)]) = H9 at r2
        obtain ⟨X1, hX1, hD1⟩ := r2.d1.x
        have l1n := dp_len hD1
        rw [List.length_map] at l1n
        refine ⟨_, rfl, .inl ⟨rfl, _, SqL.of hX1⟩, _, rfl, _, rfl, fo, rfl, hok.2.1, hok.2.2, fun p3 H10 s10 hp3 => ⟨(show 2 ≤ 1000 by decide), fun q4 H11 n11 => ?_⟩⟩
        have s911 := s10.trans n11.2.2
        have r3 := r2.same s911
        refine ⟨l1, _, _, rfl, rfl, s911 _ _ hX1, small1000 (by omega), ?_⟩
        refine ⟨_, _, _, _, _, _, _, _, _, _, _, _, _, _, _, rfl, ?_⟩
        exact r3.put1 (s911 _ _ hX1) (.tup (SqT.of n11.2.1) (.cons (.str _) (.cons (dp_ints (Same.seqT n11.2.2 hp3)) .nil)))
      | b sr tg =>
        refine iteDN (neV (show tl ("branch" : Str) ≠ tl ("vars" : Str) by decide +kernel)) ?_
        refine ⟨_, rfl, rfl, _, rfl, ?_⟩
        refine iteDN (neV (show tl ("branch" : Str) ≠ tl ("say" : Str) by decide +kernel)) ?_
        refine ⟨_, rfl, rfl, _, rfl, ?_⟩
        refine iteDY rfl ?_
        refine ⟨_, rfl, ⟨_, rfl⟩, _, _, rfl, rfl, by decide +kernel, sz9 (Nat.le_trans hrest (by decide)), fun q nq => ?_⟩
        rw [show restL (.b sr tg) = sr ++ " " ++ tg from rfl, two_part hok.1]
        refine ⟨q, _, rfl, SqT.of upd_same, rfl, _, _, rfl, _, _, rfl, _, _, rfl, rfl, ?_⟩
        have r2 := r1.same (same_new (o := .tup [.str sr, .str " ", .str tg]) nq)
        generalize upd H8 q (.tup [.str sr, .str " ", .str tg]) = H9 at r2
        refine ⟨_, rfl, _, rfl, (show 2 ≤ 1000 by decide), fun e2 H10 n10 => ⟨(show 0 ≤ 1000 by decide), fun l4 H11 n11 => ?_⟩⟩
        refine ⟨_, _, _, _, _, _, _, _, _, _, _, _, _, _, _, rfl, ?_⟩
        have r3 := r2.same n10.2.2
        have r4 := r3.same n11.2.2
        obtain ⟨X1, hX1, hD1⟩ := r3.d1.x
        obtain ⟨X2, hX2, hD2⟩ := r3.d2.x
        exact ⟨r4.s, r4.na, r4.d1, r4.d2, SqT.of (n11.2.2 _ _ n10.2.1), ⟨none_of_same r3.s n11.1, _, n11.2.1, .nil⟩, r4.ll, r4.n12, ne_of_none hX1 n11.1, ne_of_none hX2 n11.1, r4.nL1, r4.nL2, ne_of_none r3.ll n11.1⟩
      | t fo =>
        refine iteDN (neV (show tl ("test" : Str) ≠ tl ("vars" : Str) by decide +kernel)) ?_
        refine ⟨_, rfl, rfl, _, rfl, ?_⟩
        refine iteDN (neV (show tl ("test" : Str) ≠ tl ("say" : Str) by decide +kernel)) ?_
        refine ⟨_, rfl, rfl, _, rfl, ?_⟩
        refine iteDN (neV (show tl ("test" : Str) ≠ tl ("branch" : Str) by decide +kernel)) ?_
        refine ⟨_, rfl, rfl, _, rfl, ?_⟩
        refine iteDY rfl ?_
        obtain ⟨X3, hX3, hD3⟩ := r1.d3.x
        have l3n := dp_len hD3
        rw [List.length_map] at l3n
        refine ⟨_, rfl, .inl ⟨rfl, _, SqL.of hX3⟩, _, rfl, fo, rfl, hok.1, hok.2, fun p3 H10 s10 hp3 => ?_⟩
        have r3 := r1.same s10
        refine ⟨l3, _, _, rfl, rfl, s10 _ _ hX3, small1000 (by omega), ?_⟩
        refine ⟨_, _, _, _, _, _, _, _, _, _, _, _, _, _, _, rfl, ?_⟩
        exact r3.put3 (s10 _ _ hX3) (dp_ints hp3)
      | e fs =>
        refine iteDN (neV (show tl ("then" : Str) ≠ tl ("vars" : Str) by decide +kernel)) ?_
        refine ⟨_, rfl, rfl, _, rfl, ?_⟩
        refine iteDN (neV (show tl ("then" : Str) ≠ tl ("say" : Str) by decide +kernel)) ?_
        refine ⟨_, rfl, rfl, _, rfl, ?_⟩
        refine iteDN (neV (show tl ("then" : Str) ≠ tl ("branch" : Str) by decide +kernel)) ?_
        refine ⟨_, rfl, rfl, _, rfl, ?_⟩
        refine iteDN (neV (show tl ("then" : Str) ≠ tl ("test" : Str) by decide +kernel)) ?_
        refine ⟨_, rfl, rfl, _, rfl, ?_⟩
        refine iteDY rfl ?_
        obtain ⟨f0, f3, fo⟩ : fs ≠ [] ∧ fs.length ≤ 3 ∧ ∀ f ∈ fs, OkF f ∧ f ≠ [] := hok
        refine ⟨_, rfl, ⟨_, rfl⟩, _, _, rfl, rfl, by decide +kernel, lt24 (Nat.le_trans hrest (by decide)), fun q nq => ?_⟩
        rw [show restL (.e fs) = Txt.join "; " (fs.map wordsS) from rfl, turns_split f0]
        have hq : (upd H8 q (.lst ((fs.map wordsS).map V.str))) q = some (.lst ((fs.map wordsS).map V.str)) := upd_same
        have r2 := r1.same (same_new (o := .lst ((fs.map wordsS).map V.str)) nq)
        generalize upd H8 q (.lst ((fs.map wordsS).map V.str)) = H9 at r2 hq
        refine ⟨q, rfl, ⟨_, SqL.of hq⟩, lcR (walk_list (xs := (fs.map wordsS).map V.str)) (n1 := by rw [List.length_map, List.length_map]; omega) (fun H' s' => s'.seq (SqL.of hq)) (fun i y Hc => ∃ g, fs[i]? = some g ∧ Dp K Hc y (fD g)) (fun i y Ha Hb s ⟨g, e1, e2⟩ => ⟨g, e1, dp_same s _ e2⟩) ?_ ?_⟩
        · rintro D acc j x Ha Hb K2 hj s nD hD ⟨rfl, ex⟩ kk
          obtain ⟨c, ec, rfl⟩ := strs_at ex
          rw [List.getElem?_map] at ec
          obtain ⟨g, eg, rfl⟩ : ∃ g, fs[j]? = some g ∧ c = wordsS g := by
            cases h : fs[j]? with
            | none =>
              rw [h] at ec
              cases ec
            | some g =>
              rw [h] at ec
              exact ⟨g, rfl, (Option.some.inj ec).symm⟩
          obtain ⟨g1, g2⟩ := fo g (List.mem_of_getElem? eg)
          exact ⟨rfl, _, rfl, g, rfl, g1, g2, fun p3 Hc sc hp3 => kk _ _ sc ⟨g, eg, dp_ints (seqT_del (sc _ _ hD) hp3)⟩⟩
        · rintro D H10 ys n10 hlen he
          have hys : DpAll K H10 ys (fs.map fD) := by
            refine dp_of (by rw [hlen, List.length_map, List.length_map, List.length_map]) fun j y ey => ?_
            obtain ⟨g, e1, e2⟩ := he j y ey
            exact ⟨fD g, by rw [List.getElem?_map, e1]; rfl, dp_same del_same _ e2⟩
          have r3 := r2.same n10.2.2
          obtain ⟨X2, hX2, hD2⟩ := r3.d2.x
          obtain ⟨X3, hX3, hD3⟩ := r3.d3.x
          have l2n := dp_len hD2
          rw [List.length_map] at l2n
          refine ⟨_, rfl, .inl ⟨rfl, _, SqL.of hX2⟩, _, rfl, e, _, rfl, .inl r3.se, _, rfl, l3, _, rfl, .inl ⟨SqL.of hX3, fun q1 nq1 => ?_⟩⟩
          have t1 := same_new (o := .tup X3) nq1
          refine ⟨_, rfl, D, _, rfl, .inl ⟨SqL.of (t1 _ _ n10.2.1), fun q2 nq2 => ?_⟩⟩
          have t2 := same_new (o := .tup ys) nq2
          refine ⟨(show 4 ≤ 1000 by decide), fun q3 H12 n12 => ?_⟩
          have t23 := t2.trans n12.2.2
          have t13 := t1.trans t23
          have r4 := r3.same t13
          refine ⟨l2, _, _, rfl, rfl, t13 _ _ hX2, small1000 (by omega), ?_⟩
          refine ⟨_, _, _, _, _, _, _, _, _, _, _, _, _, _, _, rfl, ?_⟩
          exact r4.put2 (t13 _ _ hX2) (.tup (SqT.of n12.2.1) (.cons (.str _) (.cons (.str _) (.cons (.tup (SqT.of (t23 _ _ upd_same)) (dp_sameAll t13 _ hD3)) (.cons (.tup (SqT.of (n12.2.2 _ _ upd_same)) (dp_sameAll t13 _ hys)) .nil)))))
    · rintro σ H7 ⟨a, l1, l2, e, l3, x6, x7, x8, x9, x10, x11, x12, x13, x14, x15, rfl, r⟩
      rw [List.length_map, List.length_map, List.take_length] at r
      obtain ⟨fs, ft, fte, ef⟩ := fold_all ns ss as
      rw [ef] at r
      obtain ⟨X1, hX1, hD1⟩ := r.d1.x
      obtain ⟨X2, hX2, hD2⟩ := r.d2.x
      refine ⟨_, rfl, _, rfl, l1, _, rfl, .inl ⟨SqL.of hX1, fun q1 nq1 => ?_⟩⟩
      have t1 := same_new (o := .tup X1) nq1
      refine ⟨_, rfl, l2, _, rfl, .inl ⟨SqL.of (t1 _ _ hX2), fun q2 nq2 => ?_⟩⟩
      have t2 := same_new (o := .tup X2) nq2
      refine ⟨(show 3 ≤ 1000 by decide), fun q H8 n8 => ?_⟩
      have t12 := t2.trans n8.2.2
      have t02 := t1.trans t12
      exact k q a q1 q2 H8 (r.s.trans t02) (SqT.of n8.2.1) (dp_names (Same.seqT t02 r.na)) (.tup (SqT.of (t12 _ _ upd_same)) (dp_sameAll t02 _ hD1)) (.tup (SqT.of (n8.2.2 _ _ upd_same)) (dp_sameAll t02 _ hD2))
end
end Pg
set_option Elab.async false
set_option linter.all false
set_option maxRecDepth 100000
set_option maxHeartbeats 8000000
namespace Pg
open PySem PySem.Spec PyProof.Rows L2 Gd Rl Te Nu TL Ow
abbrev sCls : Stmt := top 37
abbrev sIni : Stmt := inClass sCls 0
abbrev sLen : Stmt := inClass sCls 10
abbrev sStr : Stmt := inClass sCls 11
abbrev sRep : Stmt := inClass sCls 12
abbrev FunP (K : PySem.W.Frag) (x q : Str) (st : Stmt) (f : Addr) (fd : FuncData) : Prop := FunD K x q (defArgs st) (defBody st) (defScope st) [] [] f fd
/-! ### the object -/
def pfP (a b c d t : V) : List (Str × V) := putF "_text" t (putF "_places" d (putF "_branches" c (putF "_sayings" b (putF "_names" a []))))
theorem ns1 : ¬ (("_names" : Str) = "_text") := by decide +kernel
theorem ns2 : ¬ (("_names" : Str) = "_places") := by decide +kernel
theorem ns3 : ¬ (("_names" : Str) = "_branches") := by decide +kernel
theorem ns4 : ¬ (("_names" : Str) = "_sayings") := by decide +kernel
theorem ss1 : ¬ (("_sayings" : Str) = "_text") := by decide +kernel
theorem ss2 : ¬ (("_sayings" : Str) = "_places") := by decide +kernel
theorem ss3 : ¬ (("_sayings" : Str) = "_branches") := by decide +kernel
theorem bs1 : ¬ (("_branches" : Str) = "_text") := by decide +kernel
theorem bs2 : ¬ (("_branches" : Str) = "_places") := by decide +kernel
theorem ps1 : ¬ (("_places" : Str) = "_text") := by decide +kernel
section
variable (a b c d t : V)
theorem pf_n : (pfP a b c d t).lookup ("_names" : Str) = some a := by
  unfold pfP
  rw [lookup_putF, if_neg ns1, lookup_putF, if_neg ns2, lookup_putF, if_neg ns3, lookup_putF, if_neg ns4, lookup_putF, if_pos rfl]
theorem pf_s : (pfP a b c d t).lookup ("_sayings" : Str) = some b := by
  unfold pfP
  rw [lookup_putF, if_neg ss1, lookup_putF, if_neg ss2, lookup_putF, if_neg ss3, lookup_putF, if_pos rfl]
theorem pf_b : (pfP a b c d t).lookup ("_branches" : Str) = some c := by
  unfold pfP
  rw [lookup_putF, if_neg bs1, lookup_putF, if_neg bs2, lookup_putF, if_pos rfl]
theorem pf_p : (pfP a b c d t).lookup ("_places" : Str) = some d := by
  unfold pfP
  rw [lookup_putF, if_neg ps1, lookup_putF, if_pos rfl]
theorem pf_t : (pfP a b c d t).lookup ("_text" : Str) = some t := by
  unfold pfP
  rw [lookup_putF, if_pos rfl]
end
theorem putF_len (f : Str) (v : V) : ∀ fs : List (Str × V), (putF f v fs).length ≤ fs.length + 1
  | [] => Nat.le_refl _
  | (g, u) :: fs => by
    have ih := putF_len f v fs
    unfold putF
    split
    · simp
    · simp only [List.length_cons]
      omega
theorem seqT_ins {K : PySem.W.Frag} {H : Hp} {p C dx a : Addr} {fs : List (Str × V)} {o : HO} {xs : List V} (hp : H p = some (.ins C dx fs)) (h : SqT K H a xs) : SqT K (upd H p o) a xs := by
  rcases h with (h | ⟨u, h⟩) | h
  · refine .inl (.inl ?_)
    rw [upd_ne (fun e => by rw [e, hp] at h; cases h)]
    exact h
  · refine .inl (.inr ⟨u, ?_⟩)
    rw [upd_ne (fun e => by rw [e, hp] at h; cases h)]
    exact h
  · exact .inr h
/-- a program stands at p -/
def ProgAt (K : PySem.W.Frag) (C : Addr) (H : Hp) (p : Addr) (ns : List Str) (ss : List (Str × List Int)) (as : List Arm) : Prop :=
  ∃ (dx : Addr) (a b c : V) (d : Addr), H p = some (.ins C dx (pfP a b c (.ref d) (.str (textS ns ss as)))) ∧ Dp K H a (namesD ns) ∧ Dp K H b (saysD ss) ∧ Dp K H c (armsD as) ∧ SqT K H d ((placesS ss as).map V.str)
theorem ProgAt.same {K : PySem.W.Frag} {C : Addr} {H H' : Hp} {p : Addr} {ns : List Str} {ss : List (Str × List Int)} {as : List Arm} (g : ProgAt K C H p ns ss as) (s : Same H H') : ProgAt K C H' p ns ss as :=
  let ⟨dx, a, b, c, d, h1, h2, h3, h4, h5⟩ := g
  ⟨dx, a, b, c, d, s _ _ h1, dp_same s _ h2, dp_same s _ h3, dp_same s _ h4, Same.seqT s h5⟩
/-- the class's facts -/
structure Txt (K : PySem.W.Frag) (mg : Str → Option Value) (C : Addr) : Prop where
  cl : Cls K C
  n : NoAttr K C "_names"
  s : NoAttr K C "_sayings"
  b : NoAttr K C "_branches"
  p : NoAttr K C "_places"
  t : NoAttr K C "_text"
  g : mg "Program" = some (.ref C)
/-- the parts are right -/
structure OkP (ns : List Str) (ss : List (Str × List Int)) (as : List Arm) : Prop where
  n : OkN ns
  s : OkS ns.length ss
  a : OkA ns.length ss as
theorem OkP.t {ns : List Str} {ss : List (Str × List Int)} {as : List Arm} (o : OkP ns ss as) : OkT ns.length ns ss as := ⟨o.n.three, o.n, o.s, o.a.five, o.a.arm⟩
/-- where the module's defs stand -/
structure Defs (K : PySem.W.Frag) (mg : Str → Option Value) (fI fN fF fS fU fCN fCS fCB fY fB fP fX fW fA fO : Addr) (dI dN dF dS dU dCN dCS dCB dY dB dP dX dW dA dO : FuncData) : Prop where
  J : Js K mg fI fN fF fS dI dN dF dS
  u : FnP K "is_numeral" sNu fU dU
  cn : FnP K "_check_names" sCN fCN dCN
  cs : FnP K "_check_sayings" sCS fCS dCS
  cb : FnP K "_check_branches" sCB fCB dCB
  y : FnP K "_is_saying" sSay fY dY
  b : FnP K "_is_branch" sBr fB dB
  p : FnP K "_places_of" sPl fP dP
  x : FnP K "_text_of" sTx fX dX
  w : FnP K "_words_of" sWd fW dW
  a : FnP K "_parts_of" sPa fA dA
  o : FnP K "_form_of" sFo fO dO
  gu : mg "is_numeral" = some (.ref fU)
  gcn : mg "_check_names" = some (.ref fCN)
  gcs : mg "_check_sayings" = some (.ref fCS)
  gcb : mg "_check_branches" = some (.ref fCB)
  gy : mg "_is_saying" = some (.ref fY)
  gb : mg "_is_branch" = some (.ref fB)
  gp : mg "_places_of" = some (.ref fP)
  gx : mg "_text_of" = some (.ref fX)
  gw : mg "_words_of" = some (.ref fW)
  ga : mg "_parts_of" = some (.ref fA)
  go : mg "_form_of" = some (.ref fO)
section
variable {P : Program} {w : World} {K : PySem.W.Frag} {mg : Str → Option Value} {base : Heap} {f C : Addr} {fd : FuncData}
variable {fI fN fF fS fU fCN fCS fCB fY fB fP fX fW fA fO : Addr} {dI dN dF dS dU dCN dCS dCB dY dB dP dX dW dA dO : FuncData}
def spIni (K : PySem.W.Frag) (C : Addr) : Sp := fun vs H Q _ => ∃ (H0 : Hp) (p dx : Addr) (u v z : V) (ns : List Str) (ss : List (Str × List Int)) (as : List Arm), vs = [.ref p, u, v, z] ∧ Same H0 H ∧ H0 p = none ∧ H p = some (.ins C dx []) ∧ Dp K H0 u (namesD ns) ∧ Dp K H0 v (saysD ss) ∧ Dp K H0 z (armsD as) ∧ OkP ns ss as ∧
  ∀ H', Same H0 H' → ProgAt K C H' p ns ss as → Q .non H'
theorem same_put {H0 H : Hp} {p : Addr} {o : HO} (s : Same H0 H) (n : H0 p = none) : Same H0 (upd H p o) := fun b u h => by
  rw [upd_ne (ne_of_none h n)]
  exact s _ _ h
theorem scIni : FnScope ["self", "names", "sayings", "branches"] ["self", "names", "sayings", "branches"] (defScope sIni) := ⟨rfl, rfl, rfl, by decide +kernel, rfl, by decide +kernel, by decide +kernel⟩
theorem dp_lenN {H : Hp} {v : V} {ds : List PyData} (h : Dp K H v (.tuple ds)) : ∃ a, v = .ref a ∧ ∃ xs, SqT K H a xs ∧ xs.length = ds.length := by
  obtain ⟨a, xs, e, h1, h2⟩ := rp_tup (.inl h)
  exact ⟨a, e, xs, h1, dp_len h2⟩
theorem ok_ini (F : FunP K "__init__" "Program.__init__" sIni f fd) (T : Mo mg) (X : Txt K mg C) (D : Defs K mg fI fN fF fS fU fCN fCS fCB fY fB fP fX fW fA fO dI dN dF dS dU dCN dCS dCB dY dB dP dX dW dA dO) : FnOk P w K mg base CX0 7 f fd ["self", "names", "sayings", "branches"] (spIni K C) := by
  have GN : FnOk P w K mg base CX0 2 fCN dCN ["names"] (spCN K) := ok_cn D.cn T D.J
  have GS : FnOk P w K mg base CX0 5 fCS dCS ["sayings", "many"] (spCS K) := ok_cs D.cs T D.J D.y D.gy
  have GB : FnOk P w K mg base CX0 6 fCB dCB ["branches", "many", "sayings"] (spCB K) := ok_cb D.cb T D.J D.b D.gb D.p D.gp
  have GP : FnOk P w K mg base CX0 1 fP dP ["sayings", "branches"] (spPl K) := ok_pl D.p T
  have GX : FnOk P w K mg base CX0 2 fX dX ["names", "sayings", "branches"] (spTx K) := ok_tx D.x T D.w D.gw
  have bN : Binds K dCN ["names"] [] := D.cn.bindsN fun _ _ _ _ _ _ us hl => match us, hl with | [_], _ => rfl
  have bS : Binds K dCS ["sayings", "many"] [] := D.cs.bindsN fun _ _ _ _ _ _ us hl => match us, hl with | [_, _], _ => rfl
  have bB : Binds K dCB ["branches", "many", "sayings"] [] := D.cb.bindsN fun _ _ _ _ _ _ us hl => match us, hl with | [_, _, _], _ => rfl
  have bP : Binds K dP ["sayings", "branches"] [] := D.p.bindsN fun _ _ _ _ _ _ us hl => match us, hl with | [_, _], _ => rfl
  have bX : Binds K dX ["names", "sayings", "branches"] [] := D.x.bindsN fun _ _ _ _ _ _ us hl => match us, hl with | [_, _, _], _ => rfl
  refine F.ok scIni (fun vs H Q E h => ?_) (fun cdv A outer s H vs Q E hr h => ?_)
  · obtain ⟨H0, p, dx, u, v, z, ns, ss, as, rfl, _⟩ := h
    rfl
  · obtain ⟨H0, p, dx, u, v, z, ns, ss, as, rfl, s0, n0, hp, hu, hv, hz, ok, k⟩ := h
    have hr4 := hr.mono (show 5 ≤ 6 by decide)
    have hr2 := hr.mono (show 2 ≤ 6 by decide)
    have hr1 := hr.mono (show 1 ≤ 6 by decide)
    refine ⟨_, PSs.nox <| pss_cons (ps_expr (pe_call GN hr2 (by rfl) D.gcn D.cn.kp bN .nil pass0 (pa_cons (pv 1) pa_nil)))
      <| pss_cons (ps_expr (pe_call GS hr4 (by rfl) D.gcs D.cs.kp bS .nil pass0 (pa_cons (pv 2) (pa_cons (pe_callB call_len (by rfl) T.len PySem.boot_len (pa_cons (pv 1) pa_nil)) pa_nil))))
      <| pss_cons (ps_expr (pe_call GB hr (by rfl) D.gcb D.cb.kp bB .nil pass0 (pa_cons (pv 3) (pa_cons (pe_callB call_len (by rfl) T.len PySem.boot_len (pa_cons (pv 1) pa_nil)) (pa_cons (pv 2) pa_nil)))))
      <| pss_cons (ps_fld (pv 0) (pv 1) rfl)
      <| pss_cons (ps_fld (pv 0) (pv 2) rfl)
      <| pss_cons (ps_fld (pv 0) (pv 3) rfl)
      <| pss_cons (ps_fld (pv 0) (pe_call GP hr1 (by rfl) D.gp D.p.kp bP .nil pass0 (pa_cons (pv 2) (pa_cons (pv 3) pa_nil))) rfl)
      <| pss_one (ps_fld (pv 0) (pe_call GX hr2 (by rfl) D.gx D.x.kp bX .nil pass0 (pa_cons (pv 1) (pa_cons (pv 2) (pa_cons (pv 3) pa_nil)))) rfl), ?_⟩
    have okT := ok.t
    have n3 := ok.n.three
    have lnN : ∀ {H' : Hp}, Same H0 H' → ∃ a, u = .ref a ∧ ∃ xs, SqT K H' a xs ∧ xs.length = ns.length := fun s => by
      obtain ⟨a, e, xs, h1, h2⟩ := dp_lenN (dp_same s _ hu)
      exact ⟨a, e, xs, h1, by rw [h2, List.length_map]⟩
    refine ⟨_, rfl, u, ns, rfl, dp_same s0 _ hu, ok.n, fun H1 s1 => ?_⟩
    have s01 := s0.trans s1
    obtain ⟨a, ea, xs, hx, lx⟩ := lnN s01
    subst ea
    refine ⟨_, rfl, _, rfl, _, _, rfl, .inr ⟨_, hx, rfl⟩, ?_⟩
    rw [lx]
    refine ⟨v, ns.length, ss, rfl, by omega, dp_same s01 _ hv, ok.s, fun H2 s2 => ?_⟩
    have s02 := s01.trans s2
    refine ⟨_, rfl, _, rfl, _, _, rfl, .inr ⟨_, Same.seqT s2 hx, rfl⟩, ?_⟩
    rw [lx]
    refine ⟨_, rfl, z, v, ns.length, ss, as, rfl, by omega, dp_same s02 _ hz, dp_same s02 _ hv, ok.s.three, ok.a, fun H3 s3 => ?_⟩
    have s03 := s02.trans s3
    have hp3 := s3 _ _ (s2 _ _ (s1 _ _ hp))
    refine ⟨_, rfl, _, rfl, p, C, dx, _, rfl, hp3, X.cl, X.n, (by decide), ?_⟩
    refine ⟨_, rfl, _, rfl, p, C, dx, _, rfl, upd_same, X.cl, X.s, Nat.lt_of_le_of_lt (putF_len _ _ _) (by decide), ?_⟩
    refine ⟨_, rfl, _, rfl, p, C, dx, _, rfl, upd_same, X.cl, X.b, Nat.lt_of_le_of_lt (putF_len _ _ _) (Nat.lt_of_le_of_lt (Nat.succ_le_succ (putF_len _ _ _)) (by decide)), ?_⟩
    have l3 : (putF ("_branches" : Str) z (putF "_sayings" v (putF "_names" (V.ref a) []))).length ≤ 3 := by
      have h1 := putF_len "_branches" z (putF "_sayings" v (putF "_names" (V.ref a) []))
      have h2 := putF_len "_sayings" v (putF "_names" (V.ref a) [])
      have h3 := putF_len "_names" (V.ref a) []
      simp only [List.length_nil] at h3
      omega
    generalize hG : upd (upd (upd H3 p (.ins C dx (putF "_names" (V.ref a) []))) p (.ins C dx (putF "_sayings" v (putF "_names" (V.ref a) [])))) p (.ins C dx (putF "_branches" z (putF "_sayings" v (putF "_names" (V.ref a) [])))) = H4
    have s04 : Same H0 H4 := by
      rw [← hG]
      exact same_put (same_put (same_put s03 n0) n0) n0
    have hp4 : H4 p = some (.ins C dx (putF "_branches" z (putF "_sayings" v (putF "_names" (V.ref a) [])))) := by
      rw [← hG]
      exact upd_same
    clear hG
    refine ⟨_, rfl, _, rfl, v, z, ss, as, rfl, dp_same s04 _ hv, dp_same s04 _ hz, ok.s.three, ok.a.five, fun d H5 s5 hd => ?_⟩
    refine ⟨_, rfl, p, C, dx, _, rfl, s5 _ _ hp4, X.cl, X.p, by omega, ?_⟩
    have s06 : Same H0 (upd H5 p (.ins C dx (putF "_places" (V.ref d) (putF "_branches" z (putF "_sayings" v (putF "_names" (V.ref a) [])))))) := same_put (s04.trans s5) n0
    have l4 : (putF ("_places" : Str) (V.ref d) (putF "_branches" z (putF "_sayings" v (putF "_names" (V.ref a) [])))).length ≤ 4 := by
      have h1 := putF_len "_places" (V.ref d) (putF "_branches" z (putF "_sayings" v (putF "_names" (V.ref a) [])))
      omega
    refine ⟨_, rfl, _, rfl, _, rfl, .ref a, v, z, ns.length, ns, ss, as, rfl, dp_same s06 _ hu, dp_same s06 _ hv, dp_same s06 _ hz, okT, fun H7 s7 => ?_⟩
    refine ⟨_, rfl, p, C, dx, _, rfl, s7 _ _ upd_same, X.cl, X.t, by omega, ?_⟩
    have s08 : Same H0 (upd H7 p (.ins C dx (pfP (.ref a) v z (.ref d) (.str (textS ns ss as))))) := same_put (s06.trans s7) n0
    refine k _ s08 ⟨dx, .ref a, v, z, d, upd_same, dp_same s08 _ hu, dp_same s08 _ hv, dp_same s08 _ hz, ?_⟩
    exact seqT_ins (s7 _ _ upd_same) (Same.seqT s7 (seqT_ins (s5 _ _ hp4) hd))
def spGet (K : PySem.W.Frag) (C : Addr) (B : List Str → List (Str × List Int) → List Arm → V → Hp → Prop) : Sp := fun vs H Q _ => ∃ (p : Addr) (ns : List Str) (ss : List (Str × List Int)) (as : List Arm), vs = [.ref p] ∧ ProgAt K C H p ns ss as ∧ OkP ns ss as ∧ ∀ v, B ns ss as v H → Q v H
theorem scOf1 {st : Stmt} (h1 : FnScope ["self"] ["self"] (defScope st)) : FnScope ["self"] ["self"] (defScope st) := h1
theorem scLen : FnScope ["self"] ["self"] (defScope sLen) := ⟨rfl, rfl, rfl, by decide +kernel, rfl, by decide +kernel, by decide +kernel⟩
theorem scStr : FnScope ["self"] ["self"] (defScope sStr) := ⟨rfl, rfl, rfl, by decide +kernel, rfl, by decide +kernel, by decide +kernel⟩
theorem scRep : FnScope ["self"] ["self"] (defScope sRep) := ⟨rfl, rfl, rfl, by decide +kernel, rfl, by decide +kernel, by decide +kernel⟩
def reprS (n : Nat) : Str := Str.empty ++ "Program of " ++ numS n ++ " branches"
theorem arms_lenH {H : Hp} {v : V} {as : List Arm} (h : Dp K H v (armsD as)) : ∃ a xs, v = .ref a ∧ SqT K H a xs ∧ xs.length = as.length := by
  obtain ⟨a, xs, e, h1, h2⟩ := rp_tup (.inl h)
  exact ⟨a, xs, e, h1, by rw [dp_len h2, List.length_map]⟩
theorem ok_len (F : FunP K "__len__" "Program.__len__" sLen f fd) (T : Mo mg) (X : Txt K mg C) : FnOk P w K mg base CX0 1 f fd ["self"] (spGet K C fun ns ss as v _ => v = .int as.length) := by
  refine F.ok scLen (fun vs H Q E h => ?_) (fun cdv A outer s H vs Q E hr h => ?_)
  · obtain ⟨p, ns, ss, as, rfl, _⟩ := h
    rfl
  · obtain ⟨p, ns, ss, as, rfl, ⟨dx, a, b, c, d, hp, ha, hb, hc, hd⟩, ok, k⟩ := h
    refine ⟨_, PSs.nox <| pss_one (ps_ret (pe_callB call_len (by rfl) T.len PySem.boot_len (pa_cons (pe_fld (pv 0) rfl) pa_nil))), ?_⟩
    obtain ⟨q, xs, rfl, hq, lq⟩ := arms_lenH hc
    exact ⟨_, rfl, p, C, dx, _, _, rfl, hp, X.cl, X.b, pf_b _ _ _ _ _, _, _, rfl, .inr ⟨_, hq, rfl⟩, by rw [lq]; exact k _ rfl⟩
theorem ok_str (F : FunP K "__str__" "Program.__str__" sStr f fd) (T : Mo mg) (X : Txt K mg C) : FnOk P w K mg base CX0 1 f fd ["self"] (spGet K C fun ns ss as v _ => v = .str (textS ns ss as)) := by
  refine F.ok scStr (fun vs H Q E h => ?_) (fun cdv A outer s H vs Q E hr h => ?_)
  · obtain ⟨p, ns, ss, as, rfl, _⟩ := h
    rfl
  · obtain ⟨p, ns, ss, as, rfl, ⟨dx, a, b, c, d, hp, ha, hb, hc, hd⟩, ok, k⟩ := h
    refine ⟨_, PSs.nox <| pss_one (ps_ret (pe_callTy SkE.call_str_str (by rfl) T.str (by decide +kernel) (pa_cons (pe_fld (pv 0) rfl) pa_nil))), ?_⟩
    exact ⟨_, rfl, p, C, dx, _, _, rfl, hp, X.cl, X.t, pf_t _ _ _ _ _, _, rfl, k _ rfl⟩
theorem ok_rep (F : FunP K "__repr__" "Program.__repr__" sRep f fd) (T : Mo mg) (X : Txt K mg C) : FnOk P w K mg base CX0 1 f fd ["self"] (spGet K C fun ns ss as v _ => v = .str (reprS as.length)) := by
  refine F.ok scRep (fun vs H Q E h => ?_) (fun cdv A outer s H vs Q E hr h => ?_)
  · obtain ⟨p, ns, ss, as, rfl, _⟩ := h
    rfl
  · obtain ⟨p, ns, ss, as, rfl, ⟨dx, a, b, c, d, hp, ha, hb, hc, hd⟩, ok, k⟩ := h
    refine ⟨_, PSs.nox <| pss_one (ps_ret (pe_joined (.cons pe_str <| .cons (pe_fmt (pe_callB call_len (by rfl) T.len PySem.boot_len (pa_cons (pe_fld (pv 0) rfl) pa_nil))) <| .cons pe_str .nil))), ?_⟩
    obtain ⟨q, xs, rfl, hq, lq⟩ := arms_lenH hc
    have a5 := ok.a.five
    have hn : (-1000000 : Int) ≤ (as.length : Int) ∧ (as.length : Int) ≤ 1000000 := by omega
    have l8 := num_len hn
    refine ⟨_, rfl, by decide +kernel, _, rfl, p, C, dx, _, _, rfl, hp, X.cl, X.b, pf_b _ _ _ _ _, _, _, rfl, .inr ⟨_, hq, rfl⟩, ?_⟩
    rw [lq]
    refine .inr ⟨_, rfl, num_log hn, _, rfl, sz9 ?_, _, rfl, sz9 ?_, k _ rfl⟩
    · show (Str.empty ++ "Program of " ++ numS as.length : Str).length ≤ 1000
      rw [len_app, len_app, e0, show ("Program of " : Str).length = 11 by decide +kernel]
      omega
    · show (Str.empty ++ "Program of " ++ numS as.length ++ " branches" : Str).length ≤ 1000
      rw [len_app, len_app, len_app, e0, show ("Program of " : Str).length = 11 by decide +kernel, show (" branches" : Str).length = 9 by decide +kernel]
      omega
end
end Pg
set_option Elab.async false
set_option linter.all false
set_option maxRecDepth 100000
set_option maxHeartbeats 8000000
namespace Pg
open PySem PySem.Spec PyProof.Rows L2 Gd Rl Te Nu TL Ow
abbrev sRd : Stmt := inClass sCls 1
abbrev sGn : Stmt := inClass sCls 2
abbrev sGs : Stmt := inClass sCls 3
abbrev sGb : Stmt := inClass sCls 4
abbrev sGp : Stmt := inClass sCls 5
abbrev sGt : Stmt := inClass sCls 6
section
variable {P : Program} {w : World} {K : PySem.W.Frag} {mg : Str → Option Value} {base : Heap} {f C : Addr} {fd : FuncData}
variable {fI fN fF fS fU fCN fCS fCB fY fB fP fX fW fA fO : Addr} {dI dN dF dS dU dCN dCS dCB dY dB dP dX dW dA dO : FuncData}
theorem sc_names : FnScope ["self"] ["self"] (defScope sGn) := ⟨rfl, rfl, rfl, by decide +kernel, rfl, by decide +kernel, by decide +kernel⟩
theorem ok_gnames (F : FunP K "names" "Program.names" sGn f fd) (X : Txt K mg C) : FnOk P w K mg base CX0 1 f fd ["self"] (spGet K C fun ns ss as v H => Dp K H v (namesD ns)) := by
  refine F.ok sc_names (fun vs H Q E h => ?_) (fun cdv A outer s H vs Q E hr h => ?_)
  · obtain ⟨p, ns, ss, as, rfl, _⟩ := h
    rfl
  · obtain ⟨p, ns, ss, as, rfl, ⟨dx, a, b, c, d, hp, ha, hb, hc, hd⟩, ok, k⟩ := h
    refine ⟨_, PSs.nox <| pss_one (ps_ret (pe_fld (pv 0) rfl)), ?_⟩
    exact ⟨_, rfl, p, C, dx, _, _, rfl, hp, X.cl, X.n, pf_n _ _ _ _ _, k _ ha⟩
theorem sc_sayings : FnScope ["self"] ["self"] (defScope sGs) := ⟨rfl, rfl, rfl, by decide +kernel, rfl, by decide +kernel, by decide +kernel⟩
theorem ok_gsayings (F : FunP K "sayings" "Program.sayings" sGs f fd) (X : Txt K mg C) : FnOk P w K mg base CX0 1 f fd ["self"] (spGet K C fun ns ss as v H => Dp K H v (saysD ss)) := by
  refine F.ok sc_sayings (fun vs H Q E h => ?_) (fun cdv A outer s H vs Q E hr h => ?_)
  · obtain ⟨p, ns, ss, as, rfl, _⟩ := h
    rfl
  · obtain ⟨p, ns, ss, as, rfl, ⟨dx, a, b, c, d, hp, ha, hb, hc, hd⟩, ok, k⟩ := h
    refine ⟨_, PSs.nox <| pss_one (ps_ret (pe_fld (pv 0) rfl)), ?_⟩
    exact ⟨_, rfl, p, C, dx, _, _, rfl, hp, X.cl, X.s, pf_s _ _ _ _ _, k _ hb⟩
theorem sc_branches : FnScope ["self"] ["self"] (defScope sGb) := ⟨rfl, rfl, rfl, by decide +kernel, rfl, by decide +kernel, by decide +kernel⟩
theorem ok_gbranches (F : FunP K "branches" "Program.branches" sGb f fd) (X : Txt K mg C) : FnOk P w K mg base CX0 1 f fd ["self"] (spGet K C fun ns ss as v H => Dp K H v (armsD as)) := by
  refine F.ok sc_branches (fun vs H Q E h => ?_) (fun cdv A outer s H vs Q E hr h => ?_)
  · obtain ⟨p, ns, ss, as, rfl, _⟩ := h
    rfl
  · obtain ⟨p, ns, ss, as, rfl, ⟨dx, a, b, c, d, hp, ha, hb, hc, hd⟩, ok, k⟩ := h
    refine ⟨_, PSs.nox <| pss_one (ps_ret (pe_fld (pv 0) rfl)), ?_⟩
    exact ⟨_, rfl, p, C, dx, _, _, rfl, hp, X.cl, X.b, pf_b _ _ _ _ _, k _ hc⟩
theorem sc_places : FnScope ["self"] ["self"] (defScope sGp) := ⟨rfl, rfl, rfl, by decide +kernel, rfl, by decide +kernel, by decide +kernel⟩
theorem ok_gplaces (F : FunP K "places" "Program.places" sGp f fd) (X : Txt K mg C) : FnOk P w K mg base CX0 1 f fd ["self"] (spGet K C fun ns ss as v H => ∃ d, v = .ref d ∧ SqT K H d ((placesS ss as).map V.str)) := by
  refine F.ok sc_places (fun vs H Q E h => ?_) (fun cdv A outer s H vs Q E hr h => ?_)
  · obtain ⟨p, ns, ss, as, rfl, _⟩ := h
    rfl
  · obtain ⟨p, ns, ss, as, rfl, ⟨dx, a, b, c, d, hp, ha, hb, hc, hd⟩, ok, k⟩ := h
    refine ⟨_, PSs.nox <| pss_one (ps_ret (pe_fld (pv 0) rfl)), ?_⟩
    exact ⟨_, rfl, p, C, dx, _, _, rfl, hp, X.cl, X.p, pf_p _ _ _ _ _, k _ ⟨d, rfl, hd⟩⟩
theorem sc_text : FnScope ["self"] ["self"] (defScope sGt) := ⟨rfl, rfl, rfl, by decide +kernel, rfl, by decide +kernel, by decide +kernel⟩
theorem ok_gtext (F : FunP K "text" "Program.text" sGt f fd) (X : Txt K mg C) : FnOk P w K mg base CX0 1 f fd ["self"] (spGet K C fun ns ss as v H => v = .str (textS ns ss as)) := by
  refine F.ok sc_text (fun vs H Q E h => ?_) (fun cdv A outer s H vs Q E hr h => ?_)
  · obtain ⟨p, ns, ss, as, rfl, _⟩ := h
    rfl
  · obtain ⟨p, ns, ss, as, rfl, ⟨dx, a, b, c, d, hp, ha, hb, hc, hd⟩, ok, k⟩ := h
    refine ⟨_, PSs.nox <| pss_one (ps_ret (pe_fld (pv 0) rfl)), ?_⟩
    exact ⟨_, rfl, p, C, dx, _, _, rfl, hp, X.cl, X.t, pf_t _ _ _ _ _, k _ rfl⟩
/-! ### read -/
def spRd (K : PySem.W.Frag) (C : Addr) : Sp := fun vs H Q _ => ∃ (ns : List Str) (ss : List (Str × List Int)) (as : List Arm), vs = [.ref C, .str (textS ns ss as)] ∧ OkP ns ss as ∧ ∀ p H', Same H H' → ProgAt K C H' p ns ss as → Q (.ref p) H'
abbrev nRd : List Str := ["cls", "text", "names", "sayings", "branches", "program"]
theorem scRd : FnScope nRd ["cls", "text"] (defScope sRd) := ⟨rfl, rfl, rfl, by decide +kernel, rfl, by decide +kernel, by decide +kernel⟩
/-- how a program is made and shown -/
structure Mkr (K : PySem.W.Frag) (C fIni fStr : Addr) (dIni dStr : FuncData) : Prop where
  m : Mk K C fIni
  i : FunP K "__init__" "Program.__init__" sIni fIni dIni
  s : FunP K "__str__" "Program.__str__" sStr fStr dStr
  ds : Dun K C "__str__" fStr
theorem ok_rd {fIni fStr : Addr} {dIni dStr : FuncData} (F : FunP K "read" "Program.read" sRd f fd) (T : Mo mg) (X : Txt K mg C) (D : Defs K mg fI fN fF fS fU fCN fCS fCB fY fB fP fX fW fA fO dI dN dF dS dU dCN dCS dCB dY dB dP dX dW dA dO) (M : Mkr K C fIni fStr dIni dStr) : FnOk P w K mg base CX0 9 f fd ["cls", "text"] (spRd K C) := by
  have GI : FnOk P w K mg base CX0 7 fIni dIni ["self", "names", "sayings", "branches"] (spIni K C) := ok_ini M.i T X D
  have GS : FnOk P w K mg base CX0 1 fStr dStr ["self"] (spGet K C fun ns ss as v _ => v = .str (textS ns ss as)) := ok_str M.s T X
  have GA : FnOk P w K mg base CX0 3 fA dA ["text"] (spPa K) := ok_pa D.a T D.o D.go D.u D.gu
  have bI : Binds K dIni ["self", "names", "sayings", "branches"] [] := M.i.bindsN fun _ _ _ _ _ _ us hl => match us, hl with | [_, _, _, _], _ => rfl
  have bS : Binds K dStr ["self"] [] := M.s.bindsN fun _ _ _ _ _ _ us hl => match us, hl with | [_], _ => rfl
  have bA : Binds K dA ["text"] [] := D.a.bindsN fun _ _ _ _ _ _ us hl => match us, hl with | [_], _ => rfl
  refine F.ok scRd (fun vs H Q E h => ?_) (fun cdv A outer s H vs Q E hr h => ?_)
  · obtain ⟨ns, ss, as, rfl, _⟩ := h
    rfl
  · obtain ⟨ns, ss, as, rfl, ok, k⟩ := h
    have hr3 := hr.mono (show 3 ≤ 8 by decide)
    refine ⟨_, PSs.nox <| pss_cons (ps_if (pt_not (pt_val (pe_callB (call_isD (T := "str")) (by rfl) T.isi boot_isinstance (pa_cons (pv 1) (pa_cons (pe_bltn (v := .ty "str") (by rfl) T.str (by decide +kernel) rfl) pa_nil))))) (pss_one ps_never) pss_nil)
      <| pss_cons (ps_asg (pe_call GA hr3 (by rfl) D.ga D.a.kp bA .nil pass0 (pa_cons (pv 1) pa_nil)) (pg_tup (by rfl) (pgs_cons (pg_name (i := 2) scRd.nd rfl (.inl rfl)) (pgs_cons (pg_name (i := 3) scRd.nd rfl (.inl rfl)) (pgs_cons (pg_name (i := 4) scRd.nd rfl (.inl rfl)) pgs_nil)))))
      <| pss_cons (ps_try_thru0 (pss_one (ps_set (i := 5) scRd.nd rfl (.inl rfl) (pe_makeL (i := 0) M.m GI hr rfl (.inl rfl) bI .nil pass0 (pa_cons (pv 2) (pa_cons (pv 3) (pa_cons (pv 4) pa_nil)))))))
      <| pss_cons (ps_if (pt_cmpR op_ne (pe_callTy (call_strO GS hr3 bS M.ds) (by rfl) T.str (by decide +kernel) (pa_cons (pv 5) pa_nil)) (pv 1) (nomark _)) (pss_one ps_never) pss_nil)
      <| pss_one (ps_ret (pv 5)), ?_⟩
    refine ⟨_, rfl, _, .str (textS ns ss as), _, rfl, .inl (.str _), kit_str _, _, rfl, ?_⟩
    refine iteF ?_
    refine ⟨_, rfl, ns.length, ns, ss, as, rfl, ok.n.one, ok.t, fun p a b c H1 s1 hp ha hb hc => ?_⟩
    refine ⟨p, _, rfl, hp, rfl, _, _, rfl, _, _, rfl, _, _, rfl, rfl, ?_⟩
    refine ⟨rfl, _, rfl, _, rfl, _, rfl, fun x dx nx ndx nex => ?_⟩
    have s2 : Same H1 (upd (upd H1 dx (.own x)) x (.ins C dx [])) := fun q o e => by
      rw [upd_ne (ne_of_none e nx), upd_ne (ne_of_none e ndx)]
      exact e
    refine ⟨H1, x, dx, _, _, _, ns, ss, as, rfl, s2, nx, upd_same, ha, hb, hc, ok, fun H3 s3 g => ⟨rfl, ?_⟩⟩
    obtain ⟨dx3, a3, b3, c3, d3, hx3, rest⟩ := g
    refine ⟨_, rfl, x, dx3, _, rfl, hx3, x, ns, ss, as, rfl, ⟨dx3, a3, b3, c3, d3, hx3, rest⟩, ok, fun v ev => ⟨⟨_, ev⟩, ?_⟩⟩
    subst ev
    refine ⟨_, rfl, rfl, _, rfl, ?_⟩
    refine iteNS rfl ?_
    exact ⟨_, rfl, k x H3 (s1.trans s3) ⟨dx3, a3, b3, c3, d3, hx3, rest⟩⟩
end
end Pg
set_option Elab.async false
set_option linter.all false
set_option maxRecDepth 100000
set_option maxHeartbeats 4000000
namespace K5
open PySem PySem.Spec PyProof.Rows L2 Gd Rl
abbrev top := Pg.top
abbrev sWell : Stmt := top 84
abbrev sDraw : Stmt := top 85
abbrev sPick : Stmt := top 86
abbrev FnP (K : PySem.W.Frag) (x : Str) (st : Stmt) (f : Addr) (fd : FuncData) : Prop := Pg.FnP K x st f fd
/-- a well: the state, the count, what is left of the own number -/
structure Well (H : Hp) (p : Addr) : Prop where
  ex : ∃ st c o : Int, H p = some (.lst [.int st, .int c, .int o]) ∧ 0 ≤ st ∧ 0 ≤ o
/-- what was tracked stands, but perhaps at p -/
def But (p : Addr) (H H' : Hp) : Prop := ∀ b o, H b = some o → b ≠ p → H' b = some o
theorem But.refl {p : Addr} {H : Hp} : But p H H := fun _ _ e _ => e
theorem But.trans {p : Addr} {H H1 H2 : Hp} (a : But p H H1) (b : But p H1 H2) : But p H H2 := fun c o e n => b c o (a c o e n) n
theorem But.same {p : Addr} {H H1 : Hp} (s : Same H H1) : But p H H1 := fun c o e _ => s c o e
theorem But.nl0 {p : Addr} {H H' : Hp} {st c o : Int} (b : But p H H') (h : H p = some (.lst [.int st, .int c, .int o])) : ∀ q u, H q = some u → (∀ xs, u ≠ .lst xs) → H' q = some u := fun q u e n => b q u e fun z => by
  rw [z, h] at e
  cases e
  exact n _ rfl
theorem Well.same {H H' : Hp} {p : Addr} (h : Well H p) (e : Same H H') : Well H' p := by
  obtain ⟨st, c, o, h1, h2⟩ := h
  exact ⟨st, c, o, e _ _ h1, h2⟩
def Nl (H H' : Hp) : Prop := ∀ b o, H b = some o → (∀ xs, o ≠ .lst xs) → H' b = some o
theorem Nl.refl {H : Hp} : Nl H H := fun _ _ e _ => e
theorem Nl.trans {H H1 H2 : Hp} (a : Nl H H1) (b : Nl H1 H2) : Nl H H2 := fun c o e n => b c o (a c o e n) n
theorem nl_same {H H' : Hp} (s : Same H H') : Nl H H' := fun b o e _ => s b o e
theorem nl_upd {H : Hp} {l : Addr} {X Y : List V} (h : H l = some (.lst X)) : Nl H (upd H l (.lst Y)) := fun b o e n => by
  rw [upd_ne (fun q => by rw [q, h] at e; cases e; exact n _ rfl)]
  exact e
theorem nl_del {H : Hp} {l : Addr} {X : List V} (h : H l = some (.lst X)) : Nl H (delH H l) := fun b o e n => by
  rw [delH_ne (fun q => by rw [q, h] at e; cases e; exact n _ rfl)]
  exact e
theorem seqT_nl {K : PySem.W.Frag} {H H' : Hp} {a : Addr} {xs : List V} (s : Nl H H') (h : SqT K H a xs) : SqT K H' a xs := by
  rcases h with (h | ⟨o, h⟩) | h
  · exact .inl (.inl (s _ _ h fun _ q => nomatch q))
  · exact .inl (.inr ⟨o, s _ _ h fun _ q => nomatch q⟩)
  · exact .inr h
mutual
theorem dp_nl {K : PySem.W.Frag} {H H' : Hp} (s : Nl H H') : ∀ (d : PyData) {v : V}, Pg.nolD d = true → Dp K H v d → Dp K H' v d
  | .none, _, _, h => by cases h; exact .non
  | .bool b, _, _, h => by cases h; exact .bl b
  | .int i, _, _, h => by cases h; exact .int i
  | .str z, _, _, h => by cases h; exact .str z
  | .list ds, _, n, _ => by cases n
  | .tuple ds, _, n, h => by
    cases h with
    | tup hs ha => exact .tup (seqT_nl s hs) (dp_nlAll s ds (by rw [Pg.nolD] at n; exact n) ha)
  | .dict _, _, _, h => by cases h
theorem dp_nlAll {K : PySem.W.Frag} {H H' : Hp} (s : Nl H H') : ∀ (ds : List PyData) {vs : List V}, Pg.nolAll ds = true → DpAll K H vs ds → DpAll K H' vs ds
  | [], _, _, h => by cases h; exact .nil
  | d :: ds, _, n, h => by
    rw [Pg.nolAll, Bool.and_eq_true] at n
    cases h with
    | cons h1 h2 => exact .cons (dp_nl s d n.1 h1) (dp_nlAll s ds n.2 h2)
end
theorem but_nl {p : Addr} {H H' : Hp} (b : But p H H') (h : Well H p) : Nl H H' := by
  obtain ⟨st, c1, o1, h1, _⟩ := h
  exact b.nl0 h1
theorem well_upd {p a : Addr} {H : Hp} {o : HO} (h : Well H p) (ne : a ≠ p) : Well (upd H a o) p := by
  obtain ⟨st, c, o1, h1, h2⟩ := h
  exact ⟨st, c, o1, by rw [upd_ne ne.symm]; exact h1, h2⟩
theorem well_ne {p a : Addr} {H : Hp} (h : Well H p) (n : H a = none) : a ≠ p := fun e => by
  obtain ⟨st, c, o1, h1, h2⟩ := h
  rw [e, h1] at n
  cases n
theorem but_upd {p D : Addr} {H H1 H2 : Hp} {o : HO} (hD : H D = none) (b1 : But p H H1) (b2 : But p H1 H2) : But p H (upd H2 D o) := fun b u e nb => by
  rw [upd_ne (ne_of_none e hD)]
  exact b2 b u (b1 b u e nb) nb
theorem upd_new {H H1 : Hp} {D : Addr} {o : HO} (s : Same H H1) (n : H D = none) : Same H (upd H1 D o) := fun b u e => by
  rw [upd_ne (ne_of_none e n)]
  exact s b u e
theorem mem_snoc {ls : List Int} {z : Int} {P : Int → Prop} (h : ∀ y ∈ ls, P y) (hz : P z) : ∀ y ∈ ls ++ [z], P y := fun y hy => by
  rcases List.mem_append.mp hy with q | q
  · exact h y q
  · rw [List.mem_singleton.mp q]
    exact hz
def spDraw : Sp := fun vs H Q _ => ∃ (p : Addr) (n : Int), vs = [.ref p, .int n] ∧ Well H p ∧ 1 ≤ n ∧ n ≤ 1000000000 ∧ ∀ (r : Int) (H' : Hp), 0 ≤ r → r < n → Well H' p → But p H H' → Q (.int r) H'
structure Bl (mg : Str → Option Value) : Prop where
  len : mg "len" = none
  divmod : mg "divmod" = none
  int : mg "int" = none
  abs : mg "abs" = none
section
variable {P : Program} {w : World} {K : PySem.W.Frag} {mg : Str → Option Value} {base : Heap} {f : Addr} {fd : FuncData}
abbrev nDraw : List Str := ["_law_well_here", "_law_many", "_law_digit", "_law_seed"]
theorem scDraw : FnScope nDraw ["_law_well_here", "_law_many"] (defScope sDraw) := ⟨rfl, rfl, rfl, by decide +kernel, rfl, by decide +kernel, by decide +kernel⟩
theorem ok_draw (F : FnP K "_law_draw" sDraw f fd) (T : Bl mg) : FnOk P w K mg base CX0 1 f fd ["_law_well_here", "_law_many"] spDraw := by
  refine F.ok scDraw (fun vs H Q E h => ?_) (fun cdv A outer s H vs Q E hr h => ?_)
  · obtain ⟨p, n, rfl, _⟩ := h
    rfl
  · obtain ⟨p, n, rfl, ⟨st, c, o, hp, h0, ho⟩, n1, n2, k⟩ := h
    refine ⟨_, PSs.nox (pss_cons (ps_if (pt_cmpR op_gt (pe_ix ix_list (pv 0) pe_int (fun _ _ => rfl)) pe_int (nomark _))
        (pss_cons (ps_asg (pe_callB call_divmod (by rfl) T.divmod (by decide +kernel) (pa_cons (pe_ix ix_list (pv 0) pe_int (fun _ _ => rfl)) (pa_cons (pv 1) pa_nil))) (pg_tup (by rfl) (pgs_cons (pg_sub (pv 0) pe_int set_list) (pgs_cons (pg_name (i := 2) scDraw.nd rfl (.inl rfl)) pgs_nil))))
          (pss_one (ps_ret (pv 2)))) pss_nil)
      (pss_cons (ps_asg (pe_op op_add (pe_ix ix_list (pv 0) pe_int (fun _ _ => rfl)) pe_int) (pg_sub (pv 0) pe_int set_list))
      (pss_cons (ps_set (i := 3) scDraw.nd rfl (.inl rfl) (pe_callTy call_int1 (by rfl) T.int (by decide +kernel) (pa_cons (pe_ix ix_list (pv 0) pe_int (fun _ _ => rfl)) pa_nil)))
      (pss_cons (ps_asg (pe_op op_mod (pe_callTy call_int1 (by rfl) T.int (by decide +kernel) (pa_cons (pe_op op_add (pe_op op_add (pe_op op_mul (pv 3) pe_int) (pe_op op_mul (pe_ix ix_list (pv 0) pe_int (fun _ _ => rfl)) pe_int)) pe_int) pa_nil)) pe_int) (pg_sub (pv 0) pe_int set_list))
      (pss_one (ps_ret (pe_op op_mod (pe_callTy call_int1 (by rfl) T.int (by decide +kernel) (pa_cons (pe_op op_fdiv (pe_ix ix_list (pv 0) pe_int (fun _ _ => rfl)) pe_int) pa_nil)) (pv 1)))))))), ?_⟩
    refine ⟨_, rfl, p, _, _, _, rfl, rfl, SqL.of hp, rfl, _, _, rfl, rfl, _, rfl, ?_⟩
    refine ite2 (fun hc => ?_) (fun hc => ?_)
    · refine ⟨_, rfl, p, _, _, _, rfl, rfl, SqL.of hp, rfl, _, rfl, _, _, rfl, ⟨by omega, by omega⟩, fun q hq => ?_⟩
      have pq : p ≠ q := ne_of_none hp hq
      have ho' : 0 < o := of_decide_eq_true hc
      refine ⟨q, _, rfl, SqT.of upd_same, rfl, _, _, rfl, _, rfl, p, _, _, 2, rfl, rfl, (by rw [upd_ne pq]; exact hp), rfl, ?_⟩
      refine ⟨_, _, rfl, ?_⟩
      refine ⟨rfl, _, rfl, ?_⟩
      refine k (o % n) _ (Int.emod_nonneg _ (by omega)) (Int.emod_lt_of_pos _ (by omega)) ⟨st, c, o / n, upd_same, h0, Int.ediv_nonneg (by omega) (by omega)⟩ fun b u e nb => ?_
      rw [upd_ne nb, upd_ne (ne_of_none e hq)]
      exact e
    · refine ⟨_, rfl, p, _, _, _, rfl, rfl, SqL.of hp, rfl, _, _, rfl, rfl, _, rfl, p, _, _, 1, rfl, rfl, hp, rfl, ?_⟩
      refine ⟨_, rfl, p, _, _, _, rfl, rfl, SqL.of upd_same, rfl, .inl ⟨_, rfl, ?_⟩⟩
      refine ⟨_, rfl, _, _, rfl, rfl, .inr ⟨by decide, by decide⟩, _, rfl, p, _, _, _, rfl, rfl, SqL.of upd_same, rfl, _, _, rfl, rfl, .inr ⟨by decide, by decide⟩, _, _, rfl, rfl, _, _, rfl, rfl, .inl ⟨_, rfl, _, _, rfl, rfl, (by show (0 : Int) < 2147483629; decide), ?_⟩⟩
      refine ⟨_, rfl, p, _, _, 0, rfl, rfl, upd_same, rfl, ?_⟩
      refine ⟨_, rfl, p, _, _, _, rfl, rfl, SqL.of upd_same, rfl, _, _, rfl, rfl, ⟨by decide, by decide⟩, .inl ⟨_, rfl, _, rfl, _, _, rfl, rfl, (by show (0 : Int) < n; omega), ?_⟩⟩
      refine k _ _ (Int.emod_nonneg _ (by omega)) (Int.emod_lt_of_pos _ (by omega)) ⟨_, _, o, upd_same, Int.emod_nonneg _ (by decide), ho⟩ fun b u e nb => ?_
      rw [upd_ne nb, upd_ne nb]
      exact e
/-! ### any of a list -/
def spPick (K : PySem.W.Frag) : Sp := fun vs H Q _ => ∃ (p l : Addr) (xs : List V), vs = [.ref p, .ref l] ∧ Well H p ∧ H l = some (.lst xs) ∧ l ≠ p ∧ 0 < xs.length ∧ xs.length ≤ 1000 ∧
  ∀ (i : Nat) (x : V) (H' : Hp), xs[i]? = some x → Well H' p → But p H H' → Q x H'
theorem scPick : FnScope ["_law_well_here", "_law_choices"] ["_law_well_here", "_law_choices"] (defScope sPick) := ⟨rfl, rfl, rfl, by decide +kernel, rfl, by decide +kernel, by decide +kernel⟩
theorem ok_pick {fC : Addr} {fdC : FuncData} (F : FnP K "_law_pick" sPick f fd) (T : Bl mg) (FC : FnP K "_law_draw" sDraw fC fdC) (gC : mg "_law_draw" = some (.ref fC)) : FnOk P w K mg base CX0 2 f fd ["_law_well_here", "_law_choices"] (spPick K) := by
  have GC : FnOk P w K mg base CX0 1 fC fdC ["_law_well_here", "_law_many"] spDraw := ok_draw FC T
  have bC : Binds K fdC ["_law_well_here", "_law_many"] [] := FC.bindsN fun _ _ _ _ _ _ us hl => match us, hl with | [_, _], _ => rfl
  refine F.ok scPick (fun vs H Q E h => ?_) (fun cdv A outer s H vs Q E hr h => ?_)
  · obtain ⟨p, l, xs, rfl, _⟩ := h
    rfl
  · obtain ⟨p, l, xs, rfl, hp, hl, lp, x0, x1, k⟩ := h
    refine ⟨_, PSs.nox (pss_one (ps_ret (pe_ix ix_list (pv 1) (pe_call GC hr (by rfl) gC FC.kp bC .nil pass0 (pa_cons (pv 0) (pa_cons (pe_callB call_len (by rfl) T.len PySem.boot_len (pa_cons (pv 1) pa_nil)) pa_nil))) (fun _ _ => rfl)))), ?_⟩
    refine ⟨_, rfl, _, rfl, _, rfl, _, xs.length, rfl, .inl ⟨_, SqL.of hl, rfl⟩, p, _, rfl, hp, by omega, by omega, fun r H' r0 r1 hp' bt => ?_⟩
    have hl' : H' l = some (.lst xs) := bt l _ hl lp
    have hi : r.toNat < xs.length := by omega
    have er : xs[r.toNat]? = some xs[r.toNat] := by simp [hi]
    have e2 : atI xs r = some xs[r.toNat] := by
      have := atI_nat er
      rwa [Int.toNat_of_nonneg r0] at this
    exact ⟨l, _, r, _, rfl, rfl, SqL.of hl', e2, k r.toNat _ H' er hp' bt⟩
end
end K5
set_option Elab.async false
set_option linter.all false
set_option maxRecDepth 100000
set_option maxHeartbeats 4000000
namespace K5
open PySem PySem.Spec PyProof.Rows L2 Gd Rl
theorem cut_ints {ns : List Int} {lo hi : Option Int} {x : V} (m : x ∈ cutV (ns.map V.int) lo hi) : ∃ z, x = V.int z := by
  unfold cutV at m
  have m2 := List.mem_of_mem_drop (List.mem_of_mem_take m)
  obtain ⟨z, _, e⟩ := List.mem_map.mp m2
  exact ⟨z, e.symm⟩
theorem cut_len (xs : List V) (lo hi : Option Int) : (cutV xs lo hi).length ≤ xs.length := by
  unfold cutV
  rw [List.length_take, List.length_drop]
  omega
section
variable {P : Program} {w : World} {K : PySem.W.Frag} {mg : Str → Option Value} {base : Heap} {f : Addr} {fd : FuncData}
def spWell (K : PySem.W.Frag) : Sp := fun vs H Q _ => ∃ (a : Addr) (ns : List Int) (t : Nat), vs = [.ref a, .int t] ∧ SqL K H a (ns.map V.int) ∧ ns.length ≤ 63 ∧ t ≤ 1000 ∧
  ∀ (p : Addr) (H' : Hp), Same H H' → H p = none → Well H' p → Q (.ref p) H'
abbrev nWell : List Str := ["_law_script", "_law_spot", "_law_state", "_law_cell", "_law_own"]
theorem scWell : FnScope nWell ["_law_script", "_law_spot"] (defScope sWell) := ⟨rfl, rfl, rfl, by decide +kernel, rfl, by decide +kernel, by decide +kernel⟩
theorem ok_well (F : FnP K "_law_well" sWell f fd) (T : Bl mg) : FnOk P w K mg base CX0 1 f fd ["_law_script", "_law_spot"] (spWell K) := by
  refine F.ok scWell (fun vs H Q E h => ?_) (fun cdv A outer s H vs Q E hr h => ?_)
  · obtain ⟨a, ns, t, rfl, _⟩ := h
    rfl
  · obtain ⟨a, ns, t, rfl, hS, hn, ht, k⟩ := h
    refine ⟨_, PSs.nox <| pss_cons (ps_set (i := 2) scWell.nd rfl (.inl rfl) (pe_op op_add pe_int (pe_op op_mul pe_int (pv 1))))
      <| pss_cons (ps_for PassesOwn.never rfl (pi_list (pe_op op_catR (pe_slice (r := rSlR K) sl_listR (pv 0) po_none (po_some pe_int)) (pe_slice (r := rSlR K) sl_listR (pv 0) (po_some (pv 1)) (po_some (pe_op op_add (pv 1) pe_int))))) (pg_name (i := 3) scWell.nd rfl (.inl rfl))
        (pss_one (ps_set (i := 2) scWell.nd rfl (.inl rfl) (pe_op op_mod (pe_callTy call_int1 (by rfl) T.int (by decide +kernel) (pa_cons (pe_op op_add (pe_op op_add (pe_op op_mul (pv 2) pe_int) (pv 3)) pe_int) pa_nil)) pe_int))))
      <| pss_cons (ps_set (i := 4) scWell.nd rfl (.inl rfl) (pe_ifExp (pt_cmpR op_lt (pv 1) (pe_callB call_len (by rfl) T.len PySem.boot_len (pa_cons (pv 0) pa_nil)) (nomark _)) (pe_ix ix_list (pv 0) (pv 1) (fun _ _ => rfl)) pe_int))
      <| pss_one (ps_ret (pe_lstR (pa_cons (pv 2) (pa_cons pe_int (pa_cons (pe_ifExp (pt_cmpR op_ge (pe_callB call_abs (by rfl) T.abs (by decide +kernel) (pa_cons (pv 4) pa_nil)) (pe_op op_pow pe_int pe_int) (nomark _)) (pe_callB call_abs (by rfl) T.abs (by decide +kernel) (pa_cons (pv 4) pa_nil)) pe_int) pa_nil))))), ?_⟩
    refine ⟨_, rfl, _, _, rfl, rfl, .inl ⟨by omega, by omega⟩, _, _, rfl, rfl, ?_⟩
    refine ⟨_, rfl, 4, rfl, a, _, rfl, hS, fun p1 H1 n1 => ?_⟩
    refine ⟨_, rfl, _, rfl, (t : Int), rfl, _, rfl, _, _, rfl, rfl, _, rfl, a, _, rfl, n1.2.2.seq hS, fun p2 H2 n2 => ?_⟩
    have l1 := cut_len (ns.map V.int) none (some 4)
    have l2 := cut_len (ns.map V.int) (some t) (some ((t : Int) + 1))
    rw [List.length_map] at l1 l2
    refine ⟨p1, p2, _, _, rfl, rfl, n2.2.2 _ _ n1.2.1, n2.2.1, by omega, fun p3 H3 n3 => ?_⟩
    have s03 := (n1.2.2.trans n2.2.2).trans n3.2.2
    refine ⟨p3, rfl, ⟨_, SqL.of n3.2.1⟩, for_list (K := K) (a := p3) (xs := cutV (ns.map V.int) none (some 4) ++ cutV (ns.map V.int) (some t) (some ((t : Int) + 1))) (fun i σ H4 => ∃ (st : Int) (cell : Option V), σ = [some (.ref a), some (.int t), some (.int st), cell, none] ∧ Same H3 H4 ∧ 0 ≤ st) ⟨_, none, rfl, Same.refl _, by omega⟩ (fun i σ H4 _ ⟨_, _, _, s4, _⟩ => SqL.of (s4 _ _ n3.2.1)) ?_ ?_⟩
    · rintro i y σ H4 hi ⟨st, cell, rfl, s4, h0⟩
      obtain ⟨z, rfl⟩ : ∃ z, y = V.int z := by
        rcases List.mem_append.mp (List.mem_of_getElem? hi) with m | m
        · exact cut_ints m
        · exact cut_ints m
      refine ⟨_, rfl, _, _, rfl, rfl, .inr ⟨by decide, by decide⟩, _, rfl, _, _, rfl, rfl, _, _, rfl, rfl, .inl ⟨_, rfl, _, _, rfl, rfl, (by show (0 : Int) < 2147483579; decide), ?_⟩⟩
      exact ⟨_, _, rfl, s4, Int.emod_nonneg _ (by decide)⟩
    · rintro σ H4 ⟨st, cell, rfl, s4, h0⟩
      have s04 := s03.trans s4
      have fin : ∀ (v : Int), 0 ≤ v → ∀ p H6, New H4 p (.lst [.int st, .int 0, .int v]) H6 → Q (.ref p) H6 := fun v hv p H6 n6 => k p H6 (s04.trans n6.2.2) (s04.free n6.1) ⟨st, 0, v, n6.2.1, h0, hv⟩
      refine ⟨_, rfl, _, rfl, _, (ns.map V.int).length, rfl, .inl ⟨_, s04.seq hS, rfl⟩, _, _, rfl, rfl, _, rfl, ?_⟩
      refine ite2 (fun hc => ?_) (fun hc => ?_)
      · have hlt : t < ns.length := by
          have z : ((t : Nat) : Int) < ((ns.map V.int).length : Nat) := of_decide_eq_true hc
          rw [List.length_map] at z
          omega
        have er : (ns.map V.int)[t]? = some (V.int ns[t]) := by simp [hlt]
        refine ⟨_, rfl, _, rfl, a, _, _, _, rfl, rfl, s04.seq hS, atI_nat er, ?_⟩
        refine ⟨_, rfl, _, rfl, _, rfl, _, _, rfl, rfl, ⟨by decide, by decide, by decide⟩, _, _, rfl, rfl, _, rfl, ?_⟩
        refine ite2 (fun h1 => ?_) (fun h1 => ?_)
        · exact ⟨_, rfl, _, rfl, by show 3 ≤ 1000; decide, fin _ (by split <;> omega)⟩
        · exact ⟨by show 3 ≤ 1000; decide, fin _ (by omega)⟩
      · refine ⟨_, rfl, _, rfl, _, rfl, _, _, rfl, rfl, ⟨by decide, by decide, by decide⟩, _, _, rfl, rfl, _, rfl, ?_⟩
        refine ite2 (fun h1 => ?_) (fun h1 => ?_)
        · exact ⟨_, rfl, _, rfl, by show 3 ≤ 1000; decide, fin _ (by split <;> omega)⟩
        · exact ⟨by show 3 ≤ 1000; decide, fin _ (by omega)⟩
end
end K5
set_option Elab.async false
set_option linter.all false
set_option maxRecDepth 100000
set_option maxHeartbeats 8000000
namespace Pg
open PySem PySem.Spec PyProof.Rows L2 Gd Rl
theorem dp_len' {K : PySem.W.Frag} {H : Hp} {vs : List V} {ds : List PyData} (h : DpAll K H vs ds) : vs.length = ds.length := dp_len h
theorem dp_sameD {K : PySem.W.Frag} {H H' : Hp} {v : V} {d : PyData} (s : Same H H') (h : Dp K H v d) : Dp K H' v d := dp_same s d h
theorem dp_sameAllD {K : PySem.W.Frag} {H H' : Hp} {vs : List V} {ds : List PyData} (s : Same H H') (h : DpAll K H vs ds) : DpAll K H' vs ds := dp_sameAll s ds h
theorem nol_says (ss : List (Str × List Int)) : nolD (saysD ss) = true := by
  unfold saysD
  rw [nolD]
  exact nol_map nol_say ss
end Pg
namespace K5
open PySem PySem.Spec PyProof.Rows L2 Gd Rl
open Pg (nolD nolAll nameS nameB fD OkF cut_take Arm sayD armD namesD saysD armsD placesS standS firsts firstB OkN OkS OkA OkP ArmOk formB formsB sayB numB nol_map nol_f nol_fs nol_say nol_arm dp_snoc list_is strs_at iteDN iteDY)
/-! ### few places -/
theorem pigeon : ∀ {xs ys : List Str}, xs.Nodup → (∀ z ∈ xs, z ∈ ys) → xs.length ≤ ys.length
  | [], _, _, _ => Nat.zero_le _
  | x :: xs, ys, nd, h => by
    have hx := h x (List.mem_cons_self ..)
    have nd2 := List.nodup_cons.mp nd
    have ih := pigeon (ys := ys.erase x) nd2.2 fun z hz => (List.mem_erase_of_ne (fun e : z = x => nd2.1 (by rw [← e]; exact hz))).mpr (h z (List.mem_cons_of_mem _ hz))
    rw [List.length_erase_of_mem hx] at ih
    have := List.length_pos_of_mem hx
    rw [List.length_cons]
    omega
theorem firsts_mem {l : List Str} : ∀ z ∈ firsts l, z ∈ l := by
  intro z hz
  unfold firsts at hz
  obtain ⟨i, hi, rfl⟩ := List.mem_map.mp hz
  have hi2 := List.mem_range.mp (List.mem_filter.mp hi).1
  rw [List.getD_eq_getElem?_getD, List.getElem?_eq_getElem hi2]
  exact List.getElem_mem hi2
theorem firsts_nodup (l : List Str) : (firsts l).Nodup := by
  unfold firsts
  rw [List.Nodup, List.pairwise_map]
  refine List.Pairwise.imp_of_mem (fun {i j} hi hj hlt => ?_) (List.Pairwise.filter _ List.pairwise_lt_range)
  have hj2 := List.mem_range.mp (List.mem_filter.mp hj).1
  have hf := (List.mem_filter.mp hj).2
  intro e
  unfold firstB at hf
  rw [← e] at hf
  have hm : l.getD i "" ∈ l.take j := by
    have hi2 : i < l.length := by omega
    rw [List.getD_eq_getElem?_getD, List.getElem?_eq_getElem hi2]
    show l[i] ∈ l.take j
    refine List.mem_of_getElem? (i := i) ?_
    rw [List.getElem?_take_of_lt hlt, List.getElem?_eq_getElem hi2]
  have hc : (l.take j).contains (l.getD i "") = true := by simpa using hm
  rw [hc] at hf
  cases hf
theorem places_few {sp : List Str} {ss : List (Str × List Int)} {as : List Arm} (h1 : ∀ s ∈ ss, s.1 ∈ sp) (h2 : ∀ a ∈ as, a.src ∈ sp ∧ a.tgt ∈ sp) : (placesS ss as).length ≤ sp.length := by
  refine pigeon (firsts_nodup _) fun z hz => ?_
  have hm := firsts_mem z hz
  unfold standS at hm
  rcases List.mem_append.mp hm with hm | hm
  · obtain ⟨s, hs, rfl⟩ := List.mem_map.mp hm
    exact h1 s hs
  · obtain ⟨q, hq, hm⟩ := List.mem_flatten.mp hm
    obtain ⟨a, ha, rfl⟩ := List.mem_map.mp hq
    have ha2 := h2 a ha
    rcases List.mem_cons.mp hm with rfl | hm
    · exact ha2.1
    · rw [List.mem_singleton.mp hm]
      exact ha2.2
/-! ### right forms -/
structure FmOk (m : Nat) (g : List Int) : Prop where
  len : g.length = m + 1
  num : ∀ i ∈ g, -1000000 ≤ i ∧ i ≤ 1000000
theorem form_of {m : Nat} {g : List Int} (h : FmOk m g) : formB m (fD g) = true := by
  show (decide ((g.map PyData.int).length = m + 1) && (g.map PyData.int).all numB) = true
  rw [Bool.and_eq_true, decide_eq_true_eq, List.length_map, List.all_map, List.all_eq_true]
  refine ⟨h.len, fun i hi => ?_⟩
  show (decide (-1000000 ≤ i) && decide (i ≤ 1000000)) = true
  have := h.num i hi
  simp [this.1, this.2]
theorem forms_of {m : Nat} {gs : List (List Int)} (h : ∀ g ∈ gs, FmOk m g) : formsB m (.tuple (gs.map fD)) = true := by
  show (gs.map fD).all (formB m) = true
  rw [List.all_map, List.all_eq_true]
  exact fun g hg => form_of (h g hg)
theorem say_of {m : Nat} {s : Str × List Int} (h1 : nameS s.1 = true) (h2 : FmOk m s.2) : sayB m (sayD s) = true := by
  show (nameS s.1 && formB m (fD s.2)) = true
  rw [h1, form_of h2]
  rfl
end K5
set_option Elab.async false
set_option linter.all false
set_option maxRecDepth 100000
set_option maxHeartbeats 8000000
namespace Pg
open PySem PySem.Spec PyProof.Rows L2 Gd Rl Te Nu TL
abbrev sLw : Stmt := top 87
section
variable {P : Program} {w : World} {K : PySem.W.Frag} {mg : Str → Option Value} {base : Heap} {f : Addr} {fd : FuncData}
theorem scLw : FnScope ["_law_shape_here", "_law_part"] ["_law_shape_here"] (defScope sLw) := ⟨rfl, rfl, rfl, by decide +kernel, rfl, by decide +kernel, by decide +kernel⟩
theorem ok_lw (F : FnP K "_law_words" sLw f fd) (T : Mo mg) : FnOk P w K mg base CX0 1 f fd ["_law_shape_here"] (spWd K) := by
  refine F.ok scLw (fun vs H Q E h => ?_) (fun cdv A outer s H vs Q E hr h => ?_)
  · obtain ⟨v, d, rfl, _⟩ := h
    rfl
  · obtain ⟨v, fo, rfl, hd, ok, k⟩ := h
    refine ⟨_, PSs.nox <| pss_one (ps_ret (pe_join pe_str (pe_lc (own := [("_law_part", 1)]) (g := gName 1) (tt := tYes) rfl scLw.nd (pi_tup (pv 0)) (blkOk_by (N := ["_law_shape_here", "_law_part"]) (sc := defScope sLw) (by decide +kernel)) (fun _ _ _ _ _ => pg_name (i := 1) scLw.nd rfl (Or.inl rfl)) (fun _ _ _ _ _ => pts_nil)
          (fun _ _ _ _ _ => pe_callTy call_str_int (by rfl) T.str (by decide +kernel) (pa_cons (pv 1) pa_nil))))), ?_⟩
    obtain ⟨a, xs, rfl, hs, ha⟩ := rp_tup (.inl hd)
    have lx := dp_len ha
    rw [List.length_map] at lx
    have h4 := ok.four
    refine ⟨⟨_, rfl⟩, _, rfl, a, rfl, ⟨_, hs⟩, lcR (walk_tup (xs := xs)) (n1 := by omega) (fun H' s' => Same.seqT s' hs) (fun i y _ => ∃ s, fo[i]? = some s ∧ y = .str (numS s)) (fun _ _ _ _ _ e => e) ?_ ?_⟩
    · rintro D acc i x Ha Hb K2 hi s nD hD ⟨rfl, ex⟩ kk
      obtain ⟨n, en, hz⟩ := map_at ha ex
      cases hz
      exact ⟨rfl, _, rfl, n, rfl, num_log (ok.nums n (List.mem_of_getElem? en)), kk _ _ (Same.refl _) ⟨n, en, rfl⟩⟩
    · rintro D H1 zs nw hlen he
      have ez : zs = (fo.map numS).map V.str := by
        rw [List.map_map]
        exact list_is (by rw [hlen, lx]) he
      subst ez
      refine ⟨_, D, fo.map numS, rfl, rfl, .inl (SqL.of nw.2.1), ?_, k H1 nw.2.2⟩
      have := words_sum ok
      rw [show (" " : Str).length = 1 by decide +kernel, List.length_map]
      omega
/-! ### the lines of a branch -/
theorem eB (a : Arm) : ("branch " : Str) ++ a.src ++ " " ++ a.tgt = lineB a := by
  apply ext_tl
  unfold lineB
  simp only [tl_append, List.append_assoc]
  rfl
theorem eT (t : List Int) : ("test " : Str) ++ wordsS t = lineT t := by
  apply ext_tl
  unfold lineT
  simp only [tl_append, List.append_assoc]
  rfl
theorem eS (s : Str × List Int) : ("say " : Str) ++ s.1 ++ " " ++ wordsS s.2 = lineS s := by
  apply ext_tl
  unfold lineS
  simp only [tl_append, List.append_assoc]
  rfl
theorem eV {ns : List Str} (h : OkN ns) : ("vars " : Str) ++ Txt.join " " ns = lineV ns := by
  apply ext_tl
  unfold lineV
  cases ns with
  | nil => exact absurd h.one (by decide)
  | cons n r =>
    rw [join_eq, join_eq]
    show tl (("vars " : Str) ++ Str.join " " (n :: r)) = tl ("vars" ++ " " ++ Str.join " " (n :: r))
    simp only [tl_append, List.append_assoc]
    rw [show tl ("vars " : Str) = tl ("vars" : Str) ++ tl (" " : Str) by decide +kernel, List.append_assoc]
end
end Pg
set_option Elab.async false
set_option linter.all false
set_option maxRecDepth 100000
set_option maxHeartbeats 8000000
namespace Pg
open PySem PySem.Spec PyProof.Rows L2 Gd Rl Te Nu TL
open K5 (upd_new)
abbrev sTxt : Stmt := top 88
/-! ### the text of a program, as the law writes it -/
def spTxt (K : PySem.W.Frag) : Sp := fun vs H Q _ => ∃ (u sl bl : Addr) (xs ys : List V) (m : Nat) (ns : List Str) (ss : List (Str × List Int)) (as : List Arm), vs = [.ref u, .ref sl, .ref bl] ∧ SqT K H u (ns.map V.str) ∧ SqL K H sl xs ∧ DpAll K H xs (ss.map sayD) ∧ SqL K H bl ys ∧ DpAll K H ys (as.map armD) ∧ OkT m ns ss as ∧ ∀ H', Same H H' → Q (.str (textS ns ss as)) H'
abbrev nTxt : List Str := ["_law_names", "_law_sayings", "_law_branches", "_law_lines", "_law_source", "_law_target", "_law_tests", "_law_changes", "_law_spot", "_law_shape_here"]
theorem scTxt : FnScope nTxt ["_law_names", "_law_sayings", "_law_branches"] (defScope sTxt) := ⟨rfl, rfl, rfl, by decide +kernel, rfl, by decide +kernel, by decide +kernel⟩
section
variable {P : Program} {w : World} {K : PySem.W.Frag} {mg : Str → Option Value} {base : Heap} {f : Addr} {fd : FuncData}
theorem ok_txt {fW : Addr} {dW : FuncData} (F : FnP K "_law_text" sTxt f fd) (T : Mo mg) (FW : FnP K "_law_words" sLw fW dW) (gW : mg "_law_words" = some (.ref fW)) : FnOk P w K mg base CX0 2 f fd ["_law_names", "_law_sayings", "_law_branches"] (spTxt K) := by
  have GW : FnOk P w K mg base CX0 1 fW dW ["_law_shape_here"] (spWd K) := ok_lw FW T
  have bW : Binds K dW ["_law_shape_here"] [] := FW.bindsN fun _ _ _ _ _ _ us hl => match us, hl with | [_], _ => rfl
  refine F.ok scTxt (fun vs H Q E h => ?_) (fun cdv A outer s H vs Q E hr h => ?_)
  · obtain ⟨u, sl, bl, xs, ys, m, ns, ss, as, rfl, _⟩ := h
    rfl
  · obtain ⟨u, sl, bl, xs, ys, m, ns, ss, as, rfl, hu, hsl, hss, hbl, has, ok, k⟩ := h
    refine ⟨_, PSs.nox <| pss_cons (ps_set (i := 3) scTxt.nd rfl (.inl rfl) (pe_op op_catR (pe_lstR (pa_cons (pe_op op_add_str pe_str (pe_join pe_str (pv 0))) pa_nil))
          (pe_lc (own := [("_law_spot", 8), ("_law_shape_here", 9)]) (g := gTup K 2 (gCons (gName 8) (gCons (gName 9) gNil))) (tt := tYes) rfl scTxt.nd (pi_list (pv 1)) (blkOk_by (N := nTxt) (sc := defScope sTxt) (by decide +kernel))
            (fun _ _ _ _ _ => pg_tup (by rfl) (pgs_cons (pg_name (i := 8) scTxt.nd rfl (.inl rfl)) (pgs_cons (pg_name (i := 9) scTxt.nd rfl (.inl rfl)) pgs_nil))) (fun _ _ _ _ _ => pts_nil)
            (fun _ _ _ _ _ => pe_op op_add_str (pe_op op_add_str (pe_op op_add_str pe_str (pv 8)) pe_str) (pe_call GW hr (by rfl) gW FW.kp bW .nil pass0 (pa_cons (pv 9) pa_nil))))))
      <| pss_cons (ps_for PassesOwn.never rfl (pi_list (pv 2)) (pg_tup (by rfl) (pgs_cons (pg_name (i := 4) scTxt.nd rfl (.inl rfl)) (pgs_cons (pg_name (i := 5) scTxt.nd rfl (.inl rfl)) (pgs_cons (pg_name (i := 6) scTxt.nd rfl (.inl rfl)) (pgs_cons (pg_name (i := 7) scTxt.nd rfl (.inl rfl)) pgs_nil)))))
          (pss_cons (ps_expr (pe_bm PySem.F.plainAttrs_list PySem.F.slot_list_append PySem.F.type_list_append mt_append (pv 3) (pa_cons (pe_op op_add_str (pe_op op_add_str (pe_op op_add_str pe_str (pv 4)) pe_str) (pv 5)) pa_nil)))
          <| pss_cons (ps_set (i := 3) scTxt.nd rfl (.inl rfl) (pe_op op_catR (pv 3) (pe_lc (own := [("_law_shape_here", 9)]) (g := gName 9) (tt := tYes) rfl scTxt.nd (pi_tup (pv 6)) (blkOk_by (N := nTxt) (sc := defScope sTxt) (by decide +kernel)) (fun _ _ _ _ _ => pg_name (i := 9) scTxt.nd rfl (Or.inl rfl)) (fun _ _ _ _ _ => pts_nil)
              (fun _ _ _ _ _ => pe_op op_add_str pe_str (pe_call GW hr (by rfl) gW FW.kp bW .nil pass0 (pa_cons (pv 9) pa_nil))))))
          <| pss_one (ps_expr (pe_bm PySem.F.plainAttrs_list PySem.F.slot_list_append PySem.F.type_list_append mt_append (pv 3) (pa_cons (pe_op op_add_str pe_str (pe_join pe_str (pe_lc (own := [("_law_shape_here", 9)]) (g := gName 9) (tt := tYes) rfl scTxt.nd (pi_tup (pv 7)) (blkOk_by (N := nTxt) (sc := defScope sTxt) (by decide +kernel)) (fun _ _ _ _ _ => pg_name (i := 9) scTxt.nd rfl (Or.inl rfl)) (fun _ _ _ _ _ => pts_nil)
              (fun _ _ _ _ _ => pe_call GW hr (by rfl) gW FW.kp bW .nil pass0 (pa_cons (pv 9) pa_nil))))) pa_nil)))))
      <| pss_one (ps_ret (pe_join pe_str (pv 3))), ?_⟩
    have lx := dp_len hss
    have ly := dp_len has
    rw [List.length_map] at lx ly
    have n3 := ok.n.three
    have s3 := ok.s.three
    have a5 := ok.a5
    have lv := lineV_len ok.n
    have m3 := ok.m3
    refine ⟨⟨_, rfl⟩, _, rfl, _, u, ns, rfl, rfl, .inr hu, ?_, _, _, rfl, rfl, sz9 ?_, (show 1 ≤ 1000 by decide), fun l H1 n1 => ?_⟩
    · have := lineV_sum ok.n
      rw [List.map_cons, List.sum_cons] at this
      rw [show (" " : Str).length = 1 by decide +kernel]
      omega
    · have := join_len " " ns
      have h2 := lineV_sum ok.n
      rw [List.map_cons, List.sum_cons] at h2
      rw [show (" " : Str).length = 1 by decide +kernel] at this
      rw [show ("vars " : Str).length = 5 by decide +kernel]
      omega
    replace n1 : New H l (.lst [.str (("vars " : Str) ++ Txt.join " " ns)]) H1 := n1
    rw [eV ok.n] at n1
    have s01 := n1.2.2
    refine ⟨_, rfl, sl, rfl, ⟨_, s01.seq hsl⟩, lcR (walk_list (xs := xs)) (n1 := by omega) (fun H' s' => s'.seq (s01.seq hsl)) (fun i y _ => ∃ sy, ss[i]? = some sy ∧ y = .str (lineS sy)) (fun _ _ _ _ _ e => e) ?_ ?_⟩
    · rintro D acc j x Ha Hb K2 hi s nD hD ⟨rfl, ex⟩ kk
      obtain ⟨sy, es, hx⟩ := map_at hss ex
      have hsy := ok.s.sy sy (List.mem_of_getElem? es)
      obtain ⟨p, ws, rfl, hp, hws⟩ := rp_tup (.inl hx)
      cases hws with
      | @cons w0 _ _ _ z0 hw1 =>
      cases hw1 with
      | @cons w1 _ _ _ z1 hw2 =>
      cases hw2
      cases z0
      obtain ⟨k1, k2⟩ := say_parts hsy
      have l8 := name_len8 k1
      have lw := words_len (okF_of ok.m3 k2)
      have b1 : ("say " : Str).length = 4 := by decide +kernel
      have b2 : (" " : Str).length = 1 := by decide +kernel
      have s0a := s01.trans s
      refine ⟨p, _, rfl, Same.seqT s0a hp, rfl, _, _, rfl, _, _, rfl, rfl, rfl, ?_⟩
      refine ⟨_, rfl, _, _, rfl, rfl, sz9 (by omega), _, _, rfl, rfl, sz9 (by rw [len_app]; omega), _, rfl, w1, sy.2, rfl, dp_same s0a _ z1, okF_of ok.m3 k2, fun H4 s4 => ⟨_, _, rfl, rfl, sz9 (by rw [len_app, len_app]; omega), ?_⟩⟩
      rw [eS]
      exact kk _ _ s4 ⟨sy, es, rfl⟩
    · rintro D H2 zs nw hlen he
      have ez : zs = (ss.map lineS).map V.str := by
        rw [List.map_map]
        exact list_is (by rw [hlen, lx]) he
      subst ez
      refine ⟨l, D, _, _, rfl, rfl, nw.2.2 _ _ n1.2.1, nw.2.1, by rw [List.length_map, List.length_map]; show 1 + _ ≤ 1000; omega, fun l3 H3 n3' => ?_⟩
      have s03 := (s01.trans nw.2.2).trans n3'.2.2
      refine ⟨_, rfl, bl, rfl, ⟨_, s03.seq hbl⟩, for_list (K := K) (a := bl) (xs := ys) (fun i σ H' => ∃ (q : Addr) (x4 x5 x6 x7 : Option V), σ = [some (.ref u), some (.ref sl), some (.ref bl), some (.ref q), x4, x5, x6, x7, none, none] ∧ H q = none ∧ H' q = some (.lst ((linesS ns ss (as.take i)).map V.str)) ∧ Same H H') ⟨l3, none, none, none, none, rfl, (s01.trans nw.2.2).free n3'.1, ?_, s03⟩ (fun i σ H' _ ⟨_, _, _, _, _, _, _, _, s⟩ => s.seq hbl) ?_ ?_⟩
      · rw [n3'.2.1]
        unfold linesS
        simp
      · rintro i x σ H4 ex ⟨q, x4, x5, x6, x7, rfl, nq, h4, s4⟩
        obtain ⟨ar, ea, hx⟩ := map_at has ex
        have har := ok.arm ar (List.mem_of_getElem? ea)
        have okI : OkT m ns ss (as.take i) := ⟨ok.m3, ok.n, ok.s, by rw [List.length_take]; omega, fun a ha => ok.arm a (List.mem_of_mem_take ha)⟩
        have lI := lines_len okI
        have lA := armL_len har
        obtain ⟨p, ws, rfl, hp, hws⟩ := rp_tup (.inl hx)
        cases hws with
        | @cons w0 _ _ _ z0 hw1 =>
        cases hw1 with
        | @cons w1 _ _ _ z1 hw2 =>
        cases hw2 with
        | @cons w2 _ _ _ z2 hw3 =>
        cases hw3 with
        | @cons w3 _ _ _ z3 hw4 =>
        cases hw4
        cases z0
        cases z1
        obtain ⟨d, ts, rfl, hd, hds⟩ := rp_tup (.inl z2)
        obtain ⟨e, cs, rfl, he', hqs⟩ := rp_tup (.inl z3)
        have lt := dp_len hds
        have lc := dp_len hqs
        rw [List.length_map] at lt lc
        have t3 := har.t3
        have cm := har.cm
        have l8 := name_len8 har.s
        have l9 := name_len8 har.t
        have b1 : ("branch " : Str).length = 7 := by decide +kernel
        have b2 : (" " : Str).length = 1 := by decide +kernel
        refine ⟨p, _, rfl, Same.seqT s4 hp, rfl, _, _, rfl, _, _, rfl, _, _, rfl, _, _, rfl, rfl, ?_⟩
        refine ⟨_, rfl, .inl ⟨rfl, _, SqL.of h4⟩, _, rfl, _, _, rfl, rfl, sz9 (by omega), _, _, rfl, rfl, sz9 (by rw [len_app, b1, b2]; omega), _, rfl, _, _, rfl, rfl, sz9 (by rw [len_app, len_app, b1, b2]; omega), q, _, _, rfl, rfl, h4, small1000 (by rw [List.length_map]; omega), ?_⟩
        rw [eB]
        have h5 : upd H4 q (.lst ((linesS ns ss (as.take i)).map V.str ++ [.str (lineB ar)])) q = some (.lst ((linesS ns ss (as.take i)).map V.str ++ [.str (lineB ar)])) := upd_same
        have s5 : Same H (upd H4 q (.lst ((linesS ns ss (as.take i)).map V.str ++ [.str (lineB ar)]))) := upd_new s4 nq
        generalize upd H4 q (.lst ((linesS ns ss (as.take i)).map V.str ++ [.str (lineB ar)])) = H5 at h5 s5 ⊢
        refine ⟨_, rfl, _, rfl, d, rfl, ⟨_, Same.seqT s5 hd⟩, lcR (walk_tup (xs := ts)) (n1 := by omega) (fun H' s' => Same.seqT (s5.trans s') hd) (fun i y _ => ∃ s, ar.tests[i]? = some s ∧ y = .str (lineT s)) (fun _ _ _ _ _ e => e) ?_ ?_⟩
        · rintro D acc j x Ha Hb K2 hi s nD hD ⟨rfl, ex⟩ kk
          obtain ⟨te, et, hx⟩ := map_at hds ex
          have hte := okF_of m3 (forms_each har.ts te (List.mem_of_getElem? et))
          have lw := words_len hte
          refine ⟨rfl, _, rfl, x, te, rfl, dp_same (s5.trans s) _ hx, hte, fun Hc sc => ⟨_, _, rfl, rfl, sz9 (by rw [show ("test " : Str).length = 5 by decide +kernel]; omega), ?_⟩⟩
          rw [eT]
          exact kk _ _ sc ⟨te, et, rfl⟩
        · rintro D H6 zs n6 hlen he
          have ey : zs = (ar.tests.map lineT).map V.str := by
            rw [List.map_map]
            exact list_is (by rw [hlen, lt]) he
          subst ey
          refine ⟨q, D, _, _, rfl, rfl, n6.2.2 _ _ h5, n6.2.1, by rw [List.length_append, List.length_map, List.length_map, List.length_map]; show _ + 1 + _ ≤ 1000; omega, fun q7 H7 n7 => ?_⟩
          have s57 := n6.2.2.trans n7.2.2
          have s07 := s5.trans s57
          have nq7 : H q7 = none := (s5.trans n6.2.2).free n7.1
          refine ⟨_, rfl, .inl ⟨rfl, _, SqL.of n7.2.1⟩, ⟨_, rfl⟩, _, rfl, e, rfl, ⟨_, Same.seqT s07 he'⟩, lcR (walk_tup (xs := cs)) (n1 := by omega) (fun H' s' => Same.seqT (s07.trans s') he') (fun i y _ => ∃ s, ar.turns[i]? = some s ∧ y = .str (wordsS s)) (fun _ _ _ _ _ e => e) ?_ ?_⟩
          · rintro D2 acc j x Ha Hb K2 hi s nD hD ⟨rfl, ex⟩ kk
            obtain ⟨tu, en, hx⟩ := map_at hqs ex
            have htu := okF_of m3 (forms_each har.cs tu (List.mem_of_getElem? en))
            exact ⟨rfl, _, rfl, x, tu, rfl, dp_same (s07.trans s) _ hx, htu, fun Hc sc => kk _ _ sc ⟨tu, en, rfl⟩⟩
          · rintro D2 H8 zs n8 hlen2 he2
            have ey : zs = (ar.turns.map wordsS).map V.str := by
              rw [List.map_map]
              exact list_is (by rw [hlen2, lc]) he2
            subst ey
            have q1 := turns_sum m3 har
            have q2 := turns_len m3 har
            have h8 := n8.2.2 _ _ n7.2.1
            refine ⟨_, D2, ar.turns.map wordsS, rfl, rfl, .inl (SqL.of n8.2.1), ?_, _, _, rfl, rfl, sz9 (by rw [show ("then " : Str).length = 5 by decide +kernel]; omega), q7, _, _, rfl, rfl, h8, small1000 (by rw [List.length_append, List.length_append, List.length_map, List.length_map, List.length_map]; show _ + 1 + _ ≤ 1000; omega), ?_⟩
            · rw [show ("; " : Str).length = 2 by decide +kernel, List.length_map]
              omega
            refine ⟨q7, _, _, _, _, rfl, nq7, ?_, upd_new (s07.trans n8.2.2) nq7⟩
            rw [upd_same, List.take_add_one, ea]
            unfold linesS armL
            simp
            rfl
      · rintro σ H4 ⟨q, x4, x5, x6, x7, rfl, nq, h4, s4⟩
        rw [ly, List.take_length] at h4
        have h1 := lines_sum ok
        have h2 := lines_len ok
        refine ⟨⟨_, rfl⟩, _, rfl, _, q, linesS ns ss as, rfl, rfl, .inl (SqL.of h4), ?_, k H4 s4⟩
        rw [show ("\n" : Str).length = 1 by decide +kernel]
        omega
end
end Pg
set_option Elab.async false
set_option linter.all false
set_option maxRecDepth 100000
set_option maxHeartbeats 8000000
namespace L2
open PySem PySem.Spec PyProof.Rows
/-! data without dicts compared, whatever its texts -/
def rEqP (K : PySem.W.Frag) : R2 := fun x y H Q => ∃ d e, Dp K H x d ∧ Dp K H y e ∧ d.plain = true ∧ e.plain = true ∧ d.depth ≤ 64 ∧ Q (.bl (PyData.eqv d e)) H
def rNeP (K : PySem.W.Frag) : R2 := fun x y H Q => ∃ d e, Dp K H x d ∧ Dp K H y e ∧ d.plain = true ∧ e.plain = true ∧ d.depth ≤ 64 ∧ Q (.bl (!PyData.eqv d e)) H
section
variable {X : Cx}
theorem op_eqP (hu : X.A.units + 64 < cLine) : OpR X (compareOp .Eq) (rEqP X.K) := by
  intro pins s σ H x y v u Q I rx ry h
  obtain ⟨d, e, hd, he, sd, se, dd, q⟩ := h
  obtain ⟨as, r1⟩ := Dp.reads I d x v hd rx
  obtain ⟨bs, r2⟩ := Dp.reads I e y u he ry
  exact SeqAt.eq_plain r1 r2 sd se (Nat.lt_of_le_of_lt (Nat.add_le_add_left (Nat.le_trans (Nat.min_le_left _ _) dd) _) hu) ⟨.bl _, H, I, rfl, q⟩
theorem op_neP (hu : X.A.units + 64 < cLine) : OpR X (compareOp .NotEq) (rNeP X.K) := by
  intro pins s σ H x y v u Q I rx ry h
  obtain ⟨d, e, hd, he, sd, se, dd, q⟩ := h
  obtain ⟨as, r1⟩ := Dp.reads I d x v hd rx
  obtain ⟨bs, r2⟩ := Dp.reads I e y u he ry
  exact SeqAt.ne_plain r1 r2 sd se (Nat.lt_of_le_of_lt (Nat.add_le_add_left (Nat.le_trans (Nat.min_le_left _ _) dd) _) hu) ⟨.bl _, H, I, rfl, q⟩
end
end L2
namespace Pg
open PySem PySem.Spec PyProof.Rows L2
theorem eqv_ints : ∀ xs ys : List Int, PyData.eqvAll (xs.map PyData.int) (ys.map PyData.int) = decide (xs = ys)
  | [], [] => by simp [PyData.eqvAll]
  | [], y :: ys => by simp [PyData.eqvAll]
  | x :: xs, [] => by simp [PyData.eqvAll]
  | x :: xs, y :: ys => by
    rw [List.map_cons, List.map_cons, PyData.eqvAll, eqv_ints xs ys, PyData.eqv]
    rw [Bool.eq_iff_iff, Bool.and_eq_true, beq_iff_eq, decide_eq_true_iff, decide_eq_true_iff, List.cons.injEq]
/-- a state: a place and values -/
def plD (s : Str × List Int) : PyData := .tuple [.str s.1, fD s.2]
theorem eqv_pl (s t : Str × List Int) : PyData.eqv (plD s) (plD t) = decide (s = t) := by
  obtain ⟨z, xs⟩ := s
  obtain ⟨y, ys⟩ := t
  show PyData.eqvAll [.str z, fD xs] [.str y, fD ys] = _
  rw [PyData.eqvAll, PyData.eqvAll, PyData.eqvAll, PyData.eqv, Bool.and_true]
  rw [show PyData.eqv (fD xs) (fD ys) = PyData.eqvAll (xs.map PyData.int) (ys.map PyData.int) from by show PyData.eqv (.tuple _) (.tuple _) = _; rw [PyData.eqv], eqv_ints]
  rw [Bool.eq_iff_iff, Bool.and_eq_true, beq_iff_eq, decide_eq_true_iff, decide_eq_true_iff, Prod.mk.injEq]
theorem plain_ints : ∀ xs : List Int, PyData.plainAll (xs.map PyData.int) = true
  | [] => by simp [PyData.plainAll]
  | x :: xs => by
    rw [List.map_cons, PyData.plainAll, plain_ints xs, PyData.plain]
    rfl
theorem plain_f (xs : List Int) : PyData.plain (fD xs) = true := by
  show PyData.plain (.tuple _) = true
  rw [PyData.plain, plain_ints]
theorem plain_pl (s : Str × List Int) : PyData.plain (plD s) = true := by
  show PyData.plain (.tuple _) = true
  rw [PyData.plain, PyData.plainAll, PyData.plainAll, PyData.plainAll, plain_f, PyData.plain]
  rfl
theorem depth_ints : ∀ xs : List Int, PyData.depthAll (xs.map PyData.int) ≤ 1
  | [] => by simp [PyData.depthAll]
  | x :: xs => by
    have := depth_ints xs
    simp only [List.map_cons, PyData.depthAll, PyData.depth]
    omega
theorem depth_f (xs : List Int) : PyData.depth (fD xs) ≤ 2 := by
  have := depth_ints xs
  show PyData.depth (.tuple _) ≤ 2
  simp only [PyData.depth]
  omega
theorem depth_pl (s : Str × List Int) : PyData.depth (plD s) ≤ 3 := by
  have := depth_f s.2
  show PyData.depth (.tuple [.str s.1, fD s.2]) ≤ 3
  simp only [PyData.depth, PyData.depthAll]
  omega
end Pg
set_option Elab.async false
set_option linter.all false
set_option maxRecDepth 100000
set_option maxHeartbeats 8000000
namespace K5
open PySem PySem.Spec PyProof.Rows L2 Gd Rl
open Pg (Mo fD iteDN iteDY)
abbrev sSm : Stmt := top 89
abbrev sSp : Stmt := top 90
abbrev sTu : Stmt := top 91
def rInt1 : List V → Hp → VK → Prop := fun xs H Q => (∃ i, xs = [.int i] ∧ Q (.int i) H) ∨ ∃ k, xs = [.bl k] ∧ Q (.int (if k then 1 else 0)) H
theorem withA {G : Prop} {R : Addr → Hp → Prop} (Pr : Addr → Hp → Prop) (h : (∀ D H, Pr D H → R D H) → G) (hR : ∀ D H, Pr D H → R D H) : G := h hR
structure Br (mg : Str → Option Value) : Prop where
  range : mg "range" = none
  sum : mg "sum" = none
theorem withH {G : Prop} {R : Hp → Prop} (Pr : Hp → Prop) (h : (∀ H, Pr H → R H) → G) (hR : ∀ H, Pr H → R H) : G := h hR
/-- what is drawn is small -/
def Sml (g : List Int) : Prop := ∀ z ∈ g, z.natAbs ≤ 110
theorem sml_ok {m : Nat} {g : List Int} (l : g.length = m + 1) (h : Sml g) : FmOk m g := ⟨l, fun z hz => by have := h z hz; omega⟩
theorem sml_snoc {g : List Int} {z : Int} (h : Sml g) (hz : z.natAbs ≤ 110) : Sml (g ++ [z]) := mem_snoc (P := fun z => z.natAbs ≤ 110) h hz
section
variable {P : Program} {w : World} {K : PySem.W.Frag} {mg : Str → Option Value} {base : Heap} {f : Addr} {fd : FuncData}
def spSm : Sp := fun vs H Q _ => ∃ (p : Addr) (wd : Int), vs = [.ref p, .int wd] ∧ Well H p ∧ 1 ≤ wd ∧ wd ≤ 100 ∧ ∀ (z : Int) (H' : Hp), z.natAbs ≤ 100 → Well H' p → But p H H' → Q (.int z) H'
theorem scSm : FnScope ["_law_well_here", "_law_wide"] ["_law_well_here", "_law_wide"] (defScope sSm) := ⟨rfl, rfl, rfl, by decide +kernel, rfl, by decide +kernel, by decide +kernel⟩
theorem ok_sm {fC fP : Addr} {dC dP : FuncData} (F : FnP K "_law_small" sSm f fd) (T : Bl mg) (FC : FnP K "_law_draw" sDraw fC dC) (gC : mg "_law_draw" = some (.ref fC)) (FP : FnP K "_law_pick" sPick fP dP) (gP : mg "_law_pick" = some (.ref fP)) : FnOk P w K mg base CX0 3 f fd ["_law_well_here", "_law_wide"] spSm := by
  have GC : FnOk P w K mg base CX0 1 fC dC ["_law_well_here", "_law_many"] spDraw := ok_draw FC T
  have bC : Binds K dC ["_law_well_here", "_law_many"] [] := FC.bindsN fun _ _ _ _ _ _ us hl => match us, hl with | [_, _], _ => rfl
  have GP : FnOk P w K mg base CX0 2 fP dP ["_law_well_here", "_law_choices"] (spPick K) := ok_pick FP T FC gC
  have bP : Binds K dP ["_law_well_here", "_law_choices"] [] := FP.bindsN fun _ _ _ _ _ _ us hl => match us, hl with | [_, _], _ => rfl
  refine F.ok scSm (fun vs H Q E h => ?_) (fun cdv A outer s H vs Q E hr h => ?_)
  · obtain ⟨p, wd, rfl, _⟩ := h
    rfl
  · obtain ⟨p, wd, rfl, hp, w0, w1, k⟩ := h
    have hr1 := hr.mono (show 1 ≤ 2 by decide)
    refine ⟨_, PSs.nox <| pss_one (ps_ret (pe_call GP hr (by rfl) gP FP.kp bP .nil pass0 (pa_cons (pv 0) (pa_cons (pe_lstR <| pa_cons pe_int <| pa_cons pe_int <| pa_cons pe_int <| pa_cons pe_int <| pa_cons (pe_un un_neg pe_int) <| pa_cons (pe_un un_neg pe_int) <| pa_cons (pe_op op_sub (pe_call GC hr1 (by rfl) gC FC.kp bC .nil pass0 (pa_cons (pv 0) (pa_cons (pe_op op_add (pe_op op_mul pe_int (pv 1)) pe_int) pa_nil))) (pv 1)) pa_nil) pa_nil)))), ?_⟩
    refine ⟨_, rfl, _, rfl, _, rfl, _, rfl, _, rfl, _, _, rfl, rfl, .inl ⟨by omega, by omega⟩, _, _, rfl, rfl, p, _, rfl, hp, by omega, by omega, fun d H1 d0 d9 hp1 b1 => ⟨_, rfl, _, _, rfl, rfl, by show 7 ≤ 1000; decide, fun l H3 n3 => ?_⟩⟩
    have lp := well_ne hp1 n3.1
    refine ⟨p, l, _, rfl, hp1.same n3.2.2, n3.2.1, lp, by show 0 < 7; decide, by show 7 ≤ 1000; decide, fun i x H4 ex hp4 b4 => ?_⟩
    have bb : But p H H4 := (b1.trans (But.same n3.2.2)).trans b4
    have fin : ∃ z : Int, x = .int z ∧ z.natAbs ≤ 100 := by
      have m := List.mem_of_getElem? ex
      simp only [List.mem_cons, List.not_mem_nil, or_false] at m
      rcases m with rfl | rfl | rfl | rfl | rfl | rfl | rfl
      · exact ⟨_, rfl, by decide⟩
      · exact ⟨_, rfl, by decide⟩
      · exact ⟨_, rfl, by decide⟩
      · exact ⟨_, rfl, by decide⟩
      · exact ⟨_, rfl, by decide⟩
      · exact ⟨_, rfl, by decide⟩
      · exact ⟨_, rfl, by omega⟩
    obtain ⟨z, rfl, hz⟩ := fin
    exact k z H4 hz hp4 bb
/-! ### a drawn form -/
def spShp (K : PySem.W.Frag) : Sp := fun vs H Q _ => ∃ (p : Addr) (n : Nat) (wd : Int), vs = [.ref p, .int (n : Nat), .int wd] ∧ Well H p ∧ n ≤ 3 ∧ 1 ≤ wd ∧ wd ≤ 100 ∧ ∀ (q : Addr) (g : List Int) (H' : Hp), g.length = n + 1 → Sml g → SqT K H' q (g.map V.int) → Well H' p → But p H H' → Q (.ref q) H'
abbrev nSp : List Str := ["_law_well_here", "_law_size", "_law_wide", "_law_k"]
theorem scSp : FnScope nSp ["_law_well_here", "_law_size", "_law_wide"] (defScope sSp) := ⟨rfl, rfl, rfl, by decide +kernel, rfl, by decide +kernel, by decide +kernel⟩
theorem ok_sp {fC fP fS : Addr} {dC dP dS : FuncData} (F : FnP K "_law_shape" sSp f fd) (T : Bl mg) (M : Mo mg) (R : Br mg) (FC : FnP K "_law_draw" sDraw fC dC) (gC : mg "_law_draw" = some (.ref fC)) (FP : FnP K "_law_pick" sPick fP dP) (gP : mg "_law_pick" = some (.ref fP)) (FS : FnP K "_law_small" sSm fS dS) (gS : mg "_law_small" = some (.ref fS)) : FnOk P w K mg base CX0 4 f fd ["_law_well_here", "_law_size", "_law_wide"] (spShp K) := by
  have GC : FnOk P w K mg base CX0 1 fC dC ["_law_well_here", "_law_many"] spDraw := ok_draw FC T
  have bC : Binds K dC ["_law_well_here", "_law_many"] [] := FC.bindsN fun _ _ _ _ _ _ us hl => match us, hl with | [_, _], _ => rfl
  have GS : FnOk P w K mg base CX0 3 fS dS ["_law_well_here", "_law_wide"] spSm := ok_sm FS T FC gC FP gP
  have bS : Binds K dS ["_law_well_here", "_law_wide"] [] := FS.bindsN fun _ _ _ _ _ _ us hl => match us, hl with | [_, _], _ => rfl
  refine F.ok scSp (fun vs H Q E h => ?_) (fun cdv A outer s H vs Q E hr h => ?_)
  · obtain ⟨p, n, wd, rfl, _⟩ := h
    rfl
  · obtain ⟨p, n, wd, rfl, hp, n3, w0, w1, k⟩ := h
    have hr1 := hr.mono (show 1 ≤ 3 by decide)
    refine ⟨_, PSs.nox <| pss_one (ps_ret (pe_callTy call_tuple_of (by rfl) M.tuple (by decide +kernel) (pa_cons (pe_op op_catR (pe_lc (own := [("_law_k", 3)]) (g := gName 3) (tt := tYes) rfl scSp.nd (pi_range1 (by rfl) R.range (pa_cons (pv 1) pa_nil)) (blkOk_by (N := nSp) (sc := defScope sSp) (by decide +kernel)) (fun _ _ _ _ _ => pg_name (i := 3) scSp.nd rfl (Or.inl rfl)) (fun _ _ _ _ _ => pts_nil)
        (fun _ _ _ _ _ => pe_call GS hr (by rfl) gS FS.kp bS .nil pass0 (pa_cons (pv 0) (pa_cons (pv 2) pa_nil))))
      (pe_lstR (pa_cons (pe_op op_sub (pe_op op_sub (pe_call GC hr1 (by rfl) gC FC.kp bC .nil pass0 (pa_cons (pv 0) (pa_cons (pe_op op_add (pe_op op_mul pe_int (pv 2)) pe_int) pa_nil))) (pv 2)) pe_int) pa_nil))) pa_nil))), ?_⟩
    refine ⟨_, rfl, _, rfl, by omega, by omega, fun D hD => ?_⟩
    have dp : D ≠ p := well_ne hp hD
    refine lc_range (lo := 0) (n := ((n : Nat) : Int).toNat) (fun i H' => ∃ g : List Int, g.length = i ∧ Sml g ∧ H' D = some (.lst (g.map V.int)) ∧ Well H' p ∧ But p H H') ⟨[], rfl, (fun _ h => by cases h), upd_same, well_upd hp dp, But.same (same_new hD)⟩ ?_ ?_
    · rintro i H1 hi ⟨g, lg, hg, h1, hp1, b1⟩
      refine ⟨rfl, _, rfl, _, rfl, p, wd, rfl, hp1, w0, w1, fun z H2 hz hp2 b2 => ⟨_, b2 _ _ h1 dp, small1000 (by rw [List.length_map]; omega), g ++ [z], by rw [List.length_append, lg]; rfl, sml_snoc hg (by omega), ?_, well_upd hp2 dp, but_upd hD b1 b2⟩⟩
      rw [upd_same, List.map_append]
      rfl
    · rintro H1 ⟨g, lg, hg, h1, hp1, b1⟩
      rw [Int.toNat_natCast] at lg
      refine ⟨_, rfl, _, rfl, _, _, rfl, rfl, .inl ⟨by omega, by omega⟩, _, _, rfl, rfl, p, _, rfl, hp1, by omega, by omega, fun d H2 d0 d9 hp2 b2 => ⟨_, rfl, _, _, rfl, rfl, _, _, rfl, rfl, by show 1 ≤ 1000; decide, fun A H3 n3' => ?_⟩⟩
      refine ⟨D, A, _, _, rfl, rfl, n3'.2.2 _ _ (b2 _ _ h1 dp), n3'.2.1, by rw [List.length_map, lg]; show _ + 1 ≤ 1000; omega, fun B H4 n4 => ⟨B, _, rfl, .inl ⟨SqL.of n4.2.1, fun q nq => ?_⟩⟩⟩
      have s24 := (n3'.2.2.trans n4.2.2).trans (same_new (o := .tup (g.map V.int ++ [V.int (d - wd - 1)])) nq)
      refine k q (g ++ [d - wd - 1]) _ (by rw [List.length_append, lg]; rfl) (sml_snoc hg (by omega)) ?_ (hp2.same s24) ((b1.trans b2).trans (But.same s24))
      rw [List.map_append]
      exact SqT.of upd_same
/-! ### drawn changes -/
/-- forms as tuples -/
def FT (K : PySem.W.Frag) (H : Hp) (xs : List V) (ts : List (List Int)) : Prop := DpAll K H xs (ts.map fD)
theorem ft_push {K : PySem.W.Frag} {H : Hp} {xs : List V} {ts : List (List Int)} {q : Addr} {g : List Int} (h : FT K H xs ts) (hq : SqT K H q (g.map V.int)) : FT K H (xs ++ [.ref q]) (ts ++ [g]) := by
  unfold FT
  rw [List.map_append]
  exact Pg.dp_snoc (Pg.dp_ints hq) h
theorem nolAll_f : ∀ ts : List (List Int), Pg.nolAll (ts.map fD) = true
  | [] => by rw [List.map_nil, Pg.nolAll]
  | t :: ts => by
    rw [List.map_cons, Pg.nolAll, nolAll_f ts, Pg.nol_f]
    rfl
theorem ft_nl {K : PySem.W.Frag} {H H' : Hp} {xs : List V} {ts : List (List Int)} (s : Nl H H') (h : FT K H xs ts) : FT K H' xs ts := dp_nlAll s _ (nolAll_f ts) h
theorem ft_len {K : PySem.W.Frag} {H : Hp} {xs : List V} {ts : List (List Int)} (h : FT K H xs ts) : xs.length = ts.length := by
  have := dp_len h
  rw [List.length_map] at this
  exact this
/-- right forms, all small -/
def Fms (n : Nat) (ts : List (List Int)) : Prop := ∀ t ∈ ts, t.length = n + 1 ∧ Sml t
theorem fms_snoc {n : Nat} {ts : List (List Int)} {g : List Int} (h : Fms n ts) (l : g.length = n + 1) (s : Sml g) : Fms n (ts ++ [g]) := fun t ht => by
  rcases List.mem_append.mp ht with q | q
  · exact h t q
  · rw [List.mem_singleton.mp q]
    exact ⟨l, s⟩
def spTu (K : PySem.W.Frag) : Sp := fun vs H Q _ => ∃ (p : Addr) (n : Nat), vs = [.ref p, .int (n : Nat)] ∧ Well H p ∧ 1 ≤ n ∧ n ≤ 3 ∧ ∀ (q : Addr) (xs : List V) (ts : List (List Int)) (H' : Hp), SqT K H' q xs → FT K H' xs ts → ts.length = n → Fms n ts → Well H' p → But p H H' → Q (.ref q) H'
abbrev nTu : List Str := ["_law_well_here", "_law_size", "_law_found", "_law_k", "_law_way", "_law_shape_here", "_law_j"]
theorem scTu : FnScope nTu ["_law_well_here", "_law_size"] (defScope sTu) := ⟨rfl, rfl, rfl, by decide +kernel, rfl, by decide +kernel, by decide +kernel⟩
theorem sml_set {g : List Int} {i : Nat} {z : Int} (h : Sml g) (hz : z.natAbs ≤ 110) : Sml (g.set i z) := fun y hy => by
  rcases List.mem_or_eq_of_mem_set hy with q | q
  · exact h y q
  · rw [q]
    exact hz
theorem ok_tu {fC fP fS : Addr} {dC dP dS : FuncData} (F : FnP K "_law_turns" sTu f fd) (T : Bl mg) (M : Mo mg) (R : Br mg) (FC : FnP K "_law_draw" sDraw fC dC) (gC : mg "_law_draw" = some (.ref fC)) (FP : FnP K "_law_pick" sPick fP dP) (gP : mg "_law_pick" = some (.ref fP)) (FS : FnP K "_law_small" sSm fS dS) (gS : mg "_law_small" = some (.ref fS)) : FnOk P w K mg base CX0 4 f fd ["_law_well_here", "_law_size"] (spTu K) := by
  have GC : FnOk P w K mg base CX0 1 fC dC ["_law_well_here", "_law_many"] spDraw := ok_draw FC T
  have bC : Binds K dC ["_law_well_here", "_law_many"] [] := FC.bindsN fun _ _ _ _ _ _ us hl => match us, hl with | [_, _], _ => rfl
  have GP : FnOk P w K mg base CX0 2 fP dP ["_law_well_here", "_law_choices"] (spPick K) := ok_pick FP T FC gC
  have bP : Binds K dP ["_law_well_here", "_law_choices"] [] := FP.bindsN fun _ _ _ _ _ _ us hl => match us, hl with | [_, _], _ => rfl
  have GS : FnOk P w K mg base CX0 3 fS dS ["_law_well_here", "_law_wide"] spSm := ok_sm FS T FC gC FP gP
  have bS : Binds K dS ["_law_well_here", "_law_wide"] [] := FS.bindsN fun _ _ _ _ _ _ us hl => match us, hl with | [_, _], _ => rfl
  refine F.ok scTu (fun vs H Q E h => ?_) (fun cdv A outer s H vs Q E hr h => ?_)
  · obtain ⟨p, n, rfl, _⟩ := h
    rfl
  · obtain ⟨p, n, rfl, hp, n1, n3, k⟩ := h
    have hr1 := hr.mono (show 1 ≤ 3 by decide)
    have hr2 := hr.mono (show 2 ≤ 3 by decide)
    refine ⟨_, PSs.nox <| pss_cons (ps_set (i := 2) scTu.nd rfl (.inl rfl) (pe_lstR pa_nil))
      <| pss_cons (ps_for PassesOwn.never rfl (pi_range1 (by rfl) R.range (pa_cons (pv 1) pa_nil)) (pg_name (i := 3) scTu.nd rfl (.inr rfl))
        (pss_cons (ps_set (i := 4) scTu.nd rfl (.inl rfl) (pe_call GC hr1 (by rfl) gC FC.kp bC .nil pass0 (pa_cons (pv 0) (pa_cons pe_int pa_nil))))
        <| pss_cons (ps_set (i := 5) scTu.nd rfl (.inl rfl) (pe_op op_catR (pe_lc (own := [("_law_j", 6)]) (g := gName 6) (tt := tYes) rfl scTu.nd (pi_range1 (by rfl) R.range (pa_cons (pv 1) pa_nil)) (blkOk_by (N := nTu) (sc := defScope sTu) (by decide +kernel)) (fun _ _ _ _ _ => pg_name (i := 6) scTu.nd rfl (Or.inl rfl)) (fun _ _ _ _ _ => pts_nil)
              (fun _ _ _ _ _ => pe_callTy (r := rInt1) call_int1 (by rfl) T.int (by decide +kernel) (pa_cons (pe_cmpR op_eq (pv 6) (pv 3) (nomark _)) pa_nil)))
            (pe_lstR (pa_cons (pe_call GP hr2 (by rfl) gP FP.kp bP .nil pass0 (pa_cons (pv 0) (pa_cons (pe_lstR <| pa_cons pe_int <| pa_cons pe_int <| pa_cons (pe_un un_neg pe_int) <| pa_cons (pe_un un_neg pe_int) <| pa_cons pe_int <| pa_cons (pe_un un_neg pe_int) <| pa_cons pe_int pa_nil) pa_nil))) pa_nil))))
        <| pss_cons (ps_if (pt_cmpR op_eq (pv 4) pe_int (nomark _)) (pss_one (ps_set (i := 5) scTu.nd rfl (.inl rfl) (pe_op op_catR (pe_lc (own := [("_law_j", 6)]) (g := gName 6) (tt := tYes) rfl scTu.nd (pi_range1 (by rfl) R.range (pa_cons (pv 1) pa_nil)) (blkOk_by (N := nTu) (sc := defScope sTu) (by decide +kernel)) (fun _ _ _ _ _ => pg_name (i := 6) scTu.nd rfl (Or.inl rfl)) (fun _ _ _ _ _ => pts_nil)
              (fun _ _ _ _ _ => pe_call GS hr (by rfl) gS FS.kp bS .nil pass0 (pa_cons (pv 0) (pa_cons pe_int pa_nil))))
            (pe_lstR (pa_cons (pe_op op_sub (pe_call GC hr1 (by rfl) gC FC.kp bC .nil pass0 (pa_cons (pv 0) (pa_cons pe_int pa_nil))) pe_int) pa_nil))))) pss_nil)
        <| pss_cons (ps_if (PW.pt (pw_and (pt_cmpR op_eq (pv 4) pe_int (nomark _)) (pw_and1 (pt_cmpR op_gt (pv 1) pe_int (nomark _))))) (pss_one (ps_asg (pe_call GP hr2 (by rfl) gP FP.kp bP .nil pass0 (pa_cons (pv 0) (pa_cons (pe_lstR <| pa_cons pe_int <| pa_cons pe_int <| pa_cons (pe_un un_neg pe_int) <| pa_cons pe_int pa_nil) pa_nil)))
            (pg_sub (pv 5) (pe_op op_sub (pe_op op_add (pv 3) pe_int) (pe_op op_mul (pv 1) (pe_callTy call_int1 (by rfl) T.int (by decide +kernel) (pa_cons (pe_cmpR op_eq (pe_op op_add (pv 3) pe_int) (pv 1) (nomark _)) pa_nil)))) set_list))) pss_nil)
        <| pss_one (ps_expr (pe_bm PySem.F.plainAttrs_list PySem.F.slot_list_append PySem.F.type_list_append mt_append (pv 2) (pa_cons (pe_callTy call_tuple_of (by rfl) M.tuple (by decide +kernel) (pa_cons (pv 5) pa_nil)) pa_nil)))))
      <| pss_one (ps_ret (pe_callTy call_tuple_of (by rfl) M.tuple (by decide +kernel) (pa_cons (pv 2) pa_nil))), ?_⟩
    refine ⟨by show 0 ≤ 1000; decide, fun F0 H1 nF => ?_⟩
    have hpF := hp.same nF.2.2
    have fp : F0 ≠ p := well_ne hp nF.1
    refine ⟨_, rfl, _, rfl, by omega, by omega, for_range (lo := 0) (n := ((n : Nat) : Int).toNat) (fun i σ H' => ∃ (x3 x4 x5 : Option V) (xs : List V) (ts : List (List Int)), σ = [some (.ref p), some (.int (n : Nat)), some (.ref F0), x3, x4, x5, none] ∧ H' F0 = some (.lst xs) ∧ FT K H' xs ts ∧ ts.length = i ∧ Fms n ts ∧ Well H' p ∧ But p H H') ⟨none, none, none, [], [], rfl, nF.2.1, .nil, rfl, (fun _ h => by cases h), hpF, But.same nF.2.2⟩ ?_ ?_⟩
    · rintro i σ H2 hi ⟨x3, x4, x5, xs, ts, rfl, h2, f2, l2, t2, hp2, b2⟩
      rw [Int.toNat_natCast] at hi
      refine ⟨_, rfl, p, _, rfl, hp2, by decide, by decide, fun way H3 w0 w6 hp3 b3 => ?_⟩
      have h3 := b3 _ _ h2 fp
      have f3 := ft_nl (but_nl b3 hp2) f2
      have b03 := b2.trans b3
      refine ⟨_, rfl, _, rfl, by omega, by omega, fun D hD => ?_⟩
      have dp : D ≠ p := well_ne hp3 hD
      refine lc_range (lo := 0) (n := ((n : Nat) : Int).toNat) (fun i H' => ∃ g : List Int, g.length = i ∧ Sml g ∧ H' D = some (.lst (g.map V.int)) ∧ Same H3 H') ⟨[], rfl, (fun _ h => by cases h), upd_same, same_new hD⟩ ?_ ?_
      · rintro j H4 hj ⟨g, lg, hg, h4, s4⟩
        refine ⟨rfl, _, rfl, _, rfl, rfl, .inr ⟨_, rfl, _, h4, small1000 (by rw [List.length_map]; omega), g ++ [if decide (V.int (0 + (j : Int)) = V.int (0 + (i : Int))) = true then 1 else 0], by rw [List.length_append, lg]; rfl, sml_snoc hg (by split <;> decide), ?_, upd_new s4 hD⟩⟩
        rw [upd_same, List.map_append]
        rfl
      · rintro H4 ⟨g, lg, hg, h4, s4⟩
        rw [Int.toNat_natCast] at lg
        have hp4 := hp3.same s4
        refine ⟨_, rfl, _, rfl, _, rfl, _, rfl, by show 7 ≤ 1000; decide, fun l H5 n5 => ?_⟩
        have hp5 := hp4.same n5.2.2
        refine ⟨p, l, _, rfl, hp5, n5.2.1, well_ne hp4 n5.1, by show 0 < 7; decide, by show 7 ≤ 1000; decide, fun a x H6 ex hp6 b6 => ⟨by show 1 ≤ 1000; decide, fun A H7 n7 => ?_⟩⟩
        obtain ⟨z, rfl, hz⟩ : ∃ z : Int, x = .int z ∧ z.natAbs ≤ 110 := by
          have m := List.mem_of_getElem? ex
          simp only [List.mem_cons, List.not_mem_nil, or_false] at m
          rcases m with rfl | rfl | rfl | rfl | rfl | rfl | rfl <;> exact ⟨_, rfl, by decide⟩
        have b46 : But p H4 H6 := (But.same n5.2.2).trans b6
        refine ⟨D, A, _, _, rfl, rfl, n7.2.2 _ _ (b46 _ _ h4 dp), n7.2.1, by rw [List.length_map, lg]; show _ + 1 ≤ 1000; omega, fun L H8 n8 => ?_⟩
        have b38 : But p H3 H8 := ((But.same s4).trans b46).trans (But.same (n7.2.2.trans n8.2.2))
        have hp8 := hp6.same (n7.2.2.trans n8.2.2)
        have hL8 : H8 L = some (.lst ((g ++ [z]).map V.int)) := by rw [n8.2.1, List.map_append]; rfl
        have h8 := b38 _ _ h3 fp
        have f8 := ft_nl (but_nl b38 hp3) f3
        have Lp : L ≠ p := well_ne (hp6.same n7.2.2) n8.1
        have LF : L ≠ F0 := (ne_of_none (n7.2.2 _ _ (b46 _ _ (s4 _ _ h3) fp)) n8.1).symm
        have b08 := b03.trans b38
        show gName 5 (.ref L) _ H8 _
        apply withA (fun L' H' => ∃ g : List Int, g.length = n + 1 ∧ Sml g ∧ H' L' = some (.lst (g.map V.int)) ∧ L' ≠ p ∧ L' ≠ F0 ∧ (∀ o, H L' ≠ some o) ∧ H' F0 = some (.lst xs) ∧ FT K H' xs ts ∧ Well H' p ∧ But p H H')
        · intro kR
          refine ⟨_, rfl, rfl, _, rfl, ?_⟩
          by_cases hw0 : way = 0
          · refine iteDY (c := V.int way = V.int 0) (by rw [hw0]) ?_
            refine ⟨_, rfl, _, rfl, by omega, by omega, fun D2 hD2 => ?_⟩
            have d2p : D2 ≠ p := well_ne hp8 hD2
            refine lc_range (lo := 0) (n := ((n : Nat) : Int).toNat) (fun i H' => ∃ g : List Int, g.length = i ∧ Sml g ∧ H' D2 = some (.lst (g.map V.int)) ∧ Well H' p ∧ But p H8 H') ⟨[], rfl, (fun _ h => by cases h), upd_same, well_upd hp8 d2p, But.same (same_new hD2)⟩ ?_ ?_
            · rintro j H9 hj ⟨g', lg', hg', h9, hp9, b9⟩
              refine ⟨rfl, _, rfl, p, 2, rfl, hp9, by decide, by decide, fun z' H10 hz' hp10 b10 => ⟨_, b10 _ _ h9 d2p, small1000 (by rw [List.length_map]; omega), g' ++ [z'], by rw [List.length_append, lg']; rfl, sml_snoc hg' (by omega), ?_, well_upd hp10 d2p, but_upd hD2 b9 b10⟩⟩
              rw [upd_same, List.map_append]
              rfl
            · rintro H9 ⟨g', lg', hg', h9, hp9, b9⟩
              rw [Int.toNat_natCast] at lg'
              refine ⟨_, rfl, p, _, rfl, hp9, by decide, by decide, fun d H10 d0 d5 hp10 b10 => ⟨_, _, rfl, rfl, by show 1 ≤ 1000; decide, fun A' H11 n11 => ?_⟩⟩
              refine ⟨D2, A', _, _, rfl, rfl, n11.2.2 _ _ (b10 _ _ h9 d2p), n11.2.1, by rw [List.length_map, lg']; show _ + 1 ≤ 1000; omega, fun L' H12 n12 => ?_⟩
              have s1012 := n11.2.2.trans n12.2.2
              have b812 : But p H8 H12 := (b9.trans b10).trans (But.same s1012)
              have h12 := b812 _ _ h8 fp
              exact kR L' H12 ⟨g' ++ [d - 2], by rw [List.length_append, lg']; rfl, sml_snoc hg' (by omega), by rw [n12.2.1, List.map_append]; rfl, well_ne (hp10.same n11.2.2) n12.1, (ne_of_none (n11.2.2 _ _ ((b9.trans b10) _ _ h8 fp)) n12.1).symm, (fun o e => by have := n11.2.2 _ _ ((b08.trans (b9.trans b10)) _ _ e (well_ne (hp10.same n11.2.2) n12.1)); rw [n12.1] at this; cases this), h12, ft_nl (but_nl b812 hp8) f8, hp10.same s1012, b08.trans b812⟩
          · refine iteDN (c := V.int way = V.int 0) (fun e => hw0 (V.int.inj e)) ?_
            exact kR L H8 ⟨g ++ [z], by rw [List.length_append, lg]; rfl, sml_snoc hg hz, hL8, Lp, LF, (fun o e => by have := n7.2.2 _ _ ((b03.trans ((But.same s4).trans b46)) _ _ e Lp); rw [n8.1] at this; cases this), h8, f8, hp8, b08⟩
        · rintro L' H9 ⟨g', lg', hg', hL9, Lp', LF', LN, h9, f9, hp9, b09⟩
          apply withH (fun H' => ∃ g : List Int, g.length = n + 1 ∧ Sml g ∧ H' L' = some (.lst (g.map V.int)) ∧ H' F0 = some (.lst xs) ∧ FT K H' xs ts ∧ Well H' p ∧ But p H H')
          · intro kR
            refine ⟨_, rfl, rfl, _, rfl, ?_⟩
            by_cases hw1 : way = 1
            · refine iteDY (c := V.int way = V.int 1) (by rw [hw1]) ?_
              refine ⟨_, rfl, _, _, rfl, rfl, _, rfl, ?_⟩
              by_cases hn1 : (1 : Int) < (n : Nat)
              · refine iteDY hn1 ?_
                refine ⟨_, rfl, _, rfl, by show 4 ≤ 1000; decide, fun l H10 n10 => ?_⟩
                have hp10 := hp9.same n10.2.2
                refine ⟨p, l, _, rfl, hp10, n10.2.1, well_ne hp9 n10.1, by show 0 < 4; decide, by show 4 ≤ 1000; decide, fun a x H11 ex hp11 b11 => ?_⟩
                obtain ⟨z2, rfl, hz2⟩ : ∃ z : Int, x = .int z ∧ z.natAbs ≤ 110 := by
                  have m := List.mem_of_getElem? ex
                  simp only [List.mem_cons, List.not_mem_nil, or_false] at m
                  rcases m with rfl | rfl | rfl | rfl <;> exact ⟨_, rfl, by decide⟩
                have b911 : But p H9 H11 := (But.same n10.2.2).trans b11
                have hL11 := b911 _ _ hL9 Lp'
                have h11 := b911 _ _ h9 fp
                obtain ⟨j, hj, hjn⟩ : ∃ j : Nat, (0 + (i : Int) + 1) - ((n : Nat) : Int) * (if decide (V.int (0 + (i : Int) + 1) = V.int ((n : Nat) : Int)) = true then 1 else 0) = (j : Int) ∧ j < n + 1 := by
                  by_cases q : i + 1 = n
                  · refine ⟨0, ?_, by omega⟩
                    rw [if_pos (decide_eq_true (by rw [← q]; congr 1; omega))]
                    omega
                  · refine ⟨i + 1, ?_, by omega⟩
                    rw [if_neg (fun h => q (by have := V.int.inj (of_decide_eq_true h); omega))]
                    omega
                refine ⟨_, rfl, _, rfl, _, _, rfl, rfl, _, rfl, _, rfl, _, _, rfl, rfl, _, rfl, rfl, .inr ⟨_, rfl, _, _, rfl, rfl, .inl ⟨by omega, by omega⟩, _, _, rfl, rfl, L', _, _, j, rfl, rfl, hL11, ?_, ?_⟩⟩
                · show ixN _ ((0 + (i : Int) + 1) - ((n : Nat) : Int) * (if decide (V.int (0 + (i : Int) + 1) = V.int ((n : Nat) : Int)) = true then 1 else 0)) = _
                  rw [hj]
                  unfold ixN
                  rw [if_pos (by omega), if_pos (by rw [List.length_map]; omega)]
                  rfl
                · have nlU : Nl H11 (upd H11 L' (.lst ((g'.map V.int).set j (.int z2)))) := nl_upd hL11
                  refine kR _ ⟨g'.set j z2, by rw [List.length_set]; exact lg', sml_set hg' hz2, by rw [upd_same, List.map_set], by rw [upd_ne LF'.symm]; exact h11, ft_nl nlU (ft_nl (but_nl b911 hp9) f9), well_upd hp11 Lp', fun b o eb nb => ?_⟩
                  have q0 := b09 _ _ eb nb
                  have q1 := b911 _ _ q0 nb
                  by_cases q : b = L'
                  · rw [q] at eb
                    exact absurd eb (LN o)
                  · rw [upd_ne q]
                    exact q1
              · refine iteDN hn1 (kR H9 ⟨g', lg', hg', hL9, h9, f9, hp9, b09⟩)
            · refine iteDN (c := V.int way = V.int 1) (fun e => hw1 (V.int.inj e)) (kR H9 ⟨g', lg', hg', hL9, h9, f9, hp9, b09⟩)
          · rintro H10 ⟨g2, lg2, hg2, hL10, h10, f10, hp10, b10⟩
            refine ⟨_, rfl, .inl ⟨rfl, _, SqL.of h10⟩, _, rfl, L', _, rfl, .inl ⟨SqL.of hL10, fun q nq => ?_⟩⟩
            have sq := same_new (o := .tup (g2.map V.int)) nq
            have hFq := sq _ _ h10
            refine ⟨F0, _, _, rfl, rfl, hFq, small1000 (by rw [ft_len f10]; omega), ?_⟩
            refine ⟨_, _, _, xs ++ [.ref q], ts ++ [g2], rfl, upd_same, ?_, by rw [List.length_append, l2]; rfl, fms_snoc t2 lg2 hg2, well_upd (hp10.same sq) fp, ?_⟩
            · exact ft_nl (nl_upd hFq) (ft_push (ft_nl (nl_same sq) f10) (SqT.of upd_same))
            · intro b o eb nb
              rw [upd_ne (ne_of_none eb nF.1)]
              exact sq _ _ (b10 _ _ eb nb)
    · rintro σ H2 ⟨x3, x4, x5, xs, ts, rfl, h2, f2, l2, t2, hp2, b2⟩
      rw [Int.toNat_natCast] at l2
      refine ⟨_, rfl, F0, _, rfl, .inl ⟨SqL.of h2, fun q nq => ?_⟩⟩
      have sq := same_new (o := .tup xs) nq
      exact k q xs ts _ (SqT.of upd_same) (ft_nl (nl_same sq) f2) l2 t2 (hp2.same sq) (b2.trans (But.same sq))
end
end K5
set_option Elab.async false
set_option linter.all false
set_option maxRecDepth 100000
set_option maxHeartbeats 8000000
namespace Hy
open PySem PySem.Spec PyProof.Rows L2 L2H Gd Rl Fx
/-! own errors over an own base, raised; the caught one asked; defs called where one is handled -/
section
variable {X : Cx} {pins : List (Addr × Obj)} {σ : L2.St} {H : Hp} {s : Shared} {B newId initId : String} {bmB : List Value} {C W fI : Addr} {f : Str} {k : Nat}
/-- an error is made: what stands then -/
theorem made_raw (Z : Root B newId initId bmB) (T : Err1 X.prog X.K X.mg newId initId bmB C W fI f) (hr : Room (k + 1) X.A) (I : Inv X pins σ H s) {y : V} {u : Value} (ry : RelV y u) {P : Value → Shared → Prop}
    (h : ∀ (h' : Heap) (tk' : Nat) (a d t1 : Addr) (mA : Str → Option Value), (∀ b o, s.heap.get? b = some o → h'.get? b = some o) → s.heap.objs.size ≤ a → s.heap.objs.size ≤ d → d ≠ a → h'.get? a = some (excD C t1 (some d)) → h'.Ns1 d mA →
      (∀ g, RelO (([(f, y)] : List (Str × V)).lookup g) (mA g)) → P (.ref a) { s with heap := h', toks := tk' }) :
    wpAny (model X.prog X.w) X.A (call (.ref C) [u] []) P X.xe s := by
  obtain ⟨nm, q, N, bs, sn, sub, ab, col, dd, k0, k1, k2, k3, k5, hC⟩ := T.t.cls
  obtain ⟨hp, g, dr, tk, os⟩ := s
  have kk : ∀ b o, hp.get? b = some o → ((hp.push (PySem.W.kdv_tup [u])).push (PySem.HandSPX.excO C hp.objs.size)).get? b = some o := fun b o e => Heap.get?_push_of_some _ (Heap.get?_push_of_some _ e)
  have hget : ((hp.push (PySem.W.kdv_tup [u])).push (PySem.HandSPX.excO C hp.objs.size)).get? (hp.objs.size + 1) = some (PySem.HandSPX.excO C hp.objs.size) := by heap_get
  have hz : [u].length ≤ sizeLine := by
    rw [sizeLine_eq]
    show 1 ≤ 16777216
    decide
  have nb : X.base.get? (hp.objs.size + 1) = none := by
    cases e : X.base.get? (hp.objs.size + 1) with
    | none => rfl
    | some o =>
      have z : hp.get? (hp.objs.size + 1) = some o := I.bk _ _ e
      exact absurd (Nat.lt_of_succ_lt (Heap.lt_size z)) (Nat.lt_irrefl _)
  refine wpAny_call (kw_call Z.fb (hT_of Z W) (I.kIn _ _ hC) (PySem.W.looks_findIn I.kIn T.t.iC) (fun self => PySem.W.bind_fn I.kIn self T.t.tI) hz ?_)
  refine init1 (s := ⟨(hp.push (PySem.W.kdv_tup [u])).push (PySem.HandSPX.excO C hp.objs.size), g, dr, tk, os⟩) Z T.t I.ok.mod (fun b o e => kk b o (I.bk b o e)) T.ff T.no T.n (.inl rfl) hget nb ?_ fun h' tk' dx t1 k1 e1 dn dne hn => ?_
  · rw [make_depth]
    have := hr.dp
    omega
  · have old : ∀ b o, hp.get? b = some o → h'.get? b = some o := fun b o e => k1 b o (Nat.ne_of_lt (Nat.lt_succ_of_lt (Heap.lt_size e))) (kk b o e)
    have sz : hp.objs.size ≤ dx := by
      have z : ((hp.push (PySem.W.kdv_tup [u])).push (PySem.HandSPX.excO C hp.objs.size)).objs.size ≤ dx := dn
      rw [Heap.size_push, Heap.size_push] at z
      omega
    exact ⟨rfl, h _ _ _ _ _ _ old (Nat.le_succ _) sz dne e1 hn (relO_put (fs := []) (mA := fun _ => none) ry fun g => True.intro)⟩
/-- such an error as one that is raised: it is let go, its dict stands -/
theorem made_mk (I : Inv X pins σ H s) (rz : Raises X (.ref C)) {h' : Heap} {tk' : Nat} {a d t1 : Addr} {mA : Str → Option Value} {fs : List (Str × V)} {Q : XK} (old : ∀ b o, s.heap.get? b = some o → h'.get? b = some o) (sa : s.heap.objs.size ≤ a) (sd : s.heap.objs.size ≤ d) (ne : d ≠ a)
    (ea : h'.get? a = some (excD C t1 (some d))) (hn : h'.Ns1 d mA) (rel : ∀ g, RelO (fs.lookup g) (mA g)) (q : ∀ d, H d = none → Q (.ref C) (some d) (upd H d (.xd fs))) : MkP X pins σ Q (.ref a) { s with heap := h', toks := tk' } := by
  obtain ⟨G, g1, g2⟩ := restrict h' fun b => decide (b ≠ a)
  have gk : ∀ b, b ≠ a → G.get? b = h'.get? b := fun b hb => g1 b (decide_eq_true hb)
  have ge : G.get? a = none := g2 a (by simp)
  have na : H a = none := I.hok.fresh sa
  have nd : H d = none := I.hok.fresh sd
  have kG : ∀ b o, G.get? b = some o → h'.get? b = some o := fun b o e => by
    rcases Classical.em (b = a) with z | z
    · rw [z, ge] at e
      cases e
    · exact (gk b z).symm.trans e
  have oG : ∀ b o, s.heap.get? b = some o → G.get? b = some o := fun b o e => (gk b (Nat.ne_of_lt (Nat.lt_of_lt_of_le (Heap.lt_size e) sa))).trans (old b o e)
  have J : Inv X pins σ (upd H d (.xd fs)) { s with heap := G, toks := tk' } := by
    refine I.laid (t' := tk') (a := d) (o := .xd fs) (h' := G) oG sd ?_
    obtain ⟨o, es, ep, e1, e2⟩ := hn
    exact ⟨mA, ⟨o, es, ep, (gk d ne).trans e1, e2⟩, rel⟩
  exact ⟨a, _, _, { s with heap := G, toks := tk' }, _, .ref C, some d, rfl, J, kG, ge, ea, ⟨rfl, rfl⟩, rfl, rfl, by rw [upd_ne (Ne.symm ne)]; exact na, rfl, I.bare, rz, q d nd⟩
theorem pmk_err {x : Str} {e : Expr} {te : TE} {p pos : Pos} (Z : Root B newId initId bmB) (T : Err1 X.prog X.K X.mg newId initId bmB C W fI f) (rz : Raises X (.ref C)) (hr : Room (k + 1) X.A) (gC : X.mg x = some (.ref C)) (hg : Gl X x) (he : PE X e te)
    (hs : starEach [e] X.env = (false, eval e X.env) :: starEach [] X.env := by rfl) (hdb : (x == ("__debug__" : Str)) = false := by decide) :
    PMk X (.Call (.Name x p) [e] [] pos) (fun σ H Q => te σ H fun y H1 => ∀ d, H1 d = none → Q (.ref C) (some d) (upd H1 d (.xd [(f, y)]))) := by
  intro pins s σ H Q I h
  refine wpAny_Call_Name_kw (ld_glob I hg gC ?_ hdb)
  refine PySem.W.callWith_K (h₀ := X.base) I.ok.mod.kin T.t.kC ?_ hs (by rfl)
  rw [hs]
  refine Calls.spliced_cons (thn (he.run pins s σ H _ I h) fun u s1 ⟨y, H1, I1, r1, q1⟩ => ?_)
  refine Calls.spliced_nil ⟨I1.kIn, ?_⟩
  exact made_raw Z T hr I1 r1 fun h' tk' a d t1 mA old sa sd ne ea hn rel => made_mk I1 rz old sa sd ne ea hn rel q1
end
/-! ### the caught error is asked -/
section
variable {X : Cx} {pins : List (Addr × Obj)} {σ : L2.St} {H : Hp} {s : Shared} {a C dd : Addr} {oe : Obj}
theorem inst_pin {fs : List (Str × V)} (I : Inv X pins σ H s) (hp : (a, oe) ∈ X.pn) (hz : Zc (.ref C) (some dd) oe) (hf : ∃ vs, oe.data = .fields vs) (ed : H dd = some (.xd fs)) :
    ∃ (od : Obj) (mA : Str → Option Value), PySem.W.InstAt s.heap a oe C (some od) ∧ (∀ n, PySem.W.lookIn n od = some (mA n)) ∧ ∀ g, RelO (fs.lookup g) (mA g) := by
  obtain ⟨ha, _⟩ := I.pin (a, oe) (List.mem_append_left _ hp)
  obtain ⟨vs, hd⟩ := hf
  have hx : ObjOk X.prog X.w H s.heap dd (.xd fs) := I.hok dd _ ed
  obtain ⟨mA, hns, hr⟩ := hx
  obtain ⟨od, ho, hl⟩ := lookIn_ns hns
  exact ⟨od, mA, ⟨ha, hz.1, by unfold PySem.W.notCls; rw [hd] <;> rfl, by rw [hz.2]; exact ho⟩, hl, hr⟩
/-- isinstance(e, c), e the error that is handled -/
def rIsP (K : PySem.W.Frag) (a C dd : Addr) : List V → Hp → VK → Prop := fun xs H Q => ∃ (c : V) (u : Value) (b : Bool) (fs : List (Str × V)), xs = [.ref a, c] ∧ ClsV c u ∧ H dd = some (.xd fs) ∧ PySem.W.kitOne K (.ref C) u = some b ∧ Q (.bl b) H
theorem call_isP (hp : (a, oe) ∈ X.pn) (hz : Zc (.ref C) (some dd) oe) (hf : ∃ vs, oe.data = .fields vs) (T : IsC X.K C) : CallR X (.builtin "isinstance") (rIsP X.K a C dd) := by
  intro pins s σ H xs us Q I r h
  obtain ⟨c, u, b, fs, rfl, kc, ed, e, q⟩ := h
  obtain ⟨u1, u2, rfl, r1, r2⟩ := vals2 r
  have e2 := kc.eq r2
  subst e2
  cases (show u1 = Value.ref a from r1)
  obtain ⟨od, mA, J, _⟩ := inst_pin I hp hz hf ed
  exact PySem.W.kia_one (PySem.W.kitx_exc (gt := none) T.cl T.ga T.gg T.ex T.ha T.hn T.ht T.hm) I.kIn J e (fun z => nomatch z) fun tk => ⟨.bl b, H, I.tok tk, rfl, q⟩
/-- e.f, e the error that is handled -/
def tXp (a dd : Addr) (f : Str) (te : TE) : TE := fun σ H Q => te σ H fun x H1 => ∃ (fs : List (Str × V)) (v : V), x = .ref a ∧ H1 dd = some (.xd fs) ∧ fs.lookup f = some v ∧ Q v H1
theorem pe_xp {e : Expr} {te : TE} {pos : Pos} {n : Str} (T : XfC X.K C) (hno : PySem.W.findIn X.K (.ref C) n = some none) (hp : (a, oe) ∈ X.pn) (hz : Zc (.ref C) (some dd) oe) (hf : ∃ vs, oe.data = .fields vs) (he : PE X e te)
    (hb : attributeBase e n X.env (eval e X.env) = eval e X.env := by rfl) : PE X (.Attribute e n pos) (tXp a dd n te) := by
  refine ⟨fun pins s σ H Q I h => ?_⟩
  refine attr_of hb (thn (he.run pins s σ H _ I h) fun u s1 hh => ?_)
  obtain ⟨x, H1, I1, rx, fs, v, ex, ed, l, q⟩ := hh
  subst ex
  obtain rfl : u = Value.ref a := rx
  obtain ⟨od, mA, J, hl, hr⟩ := inst_pin I1 hp hz hf ed
  obtain ⟨u, hu, ru⟩ := RelO.some_of (v := v) (o := mA n) (by rw [← l]; exact hr n)
  exact HandSPX.exc_get I1.kIn J T.ga T.gg T.exC (PySem.W.findObj_own T.hdC hno rfl (by rw [hl, hu])) (handed_of ru) ⟨v, H1, I1.tok _, ru, q⟩
end
/-! ### a def called where an error is handled -/
structure FnQ (P : Program) (w : World) (K : PySem.W.Frag) (mg : Str → Option Value) (base : Heap) (k : Nat) (f : Addr) (fd : FuncData) (ps : List Str) (sp : Addr → Value → Option Addr → Sp) : Prop where
  len : ∀ a c d vs H Q E, sp a c d vs H Q E → vs.length = ps.length
  run : ∀ (A : Around) (outer : List Env) (s : Shared) (H : Hp) (args : Args) (us : List Value) (vs : List V) (Q : VK) (E : XK) (a : Addr) (oe : Obj) (c : Value) (d : Option Addr), A.guards = some [] → RoomH k A → PinOk outer H s (a, oe) → Zc c d oe → (∃ fs, oe.data = .fields fs) →
    Env0 P w K mg base A outer s H → BindsTo s fd args (ps.zip us) → Vals vs us → sp a c d vs H Q E → codeAny (model P w) A (.call (.ref f) args) (CR CX0 outer P w H s Q E) s
section
variable {P : Program} {w : World} {K : PySem.W.Frag} {mg : Str → Option Value} {base : Heap} {x qual : Str} {params : Arguments} {body : List Stmt} {scope : Scope} {dvs : List V} {kws : List (Str × V)} {f : Addr} {fd : FuncData}
theorem okQ {N ps : List Str} {k : Nat} {sp : Addr → Value → Option Addr → Sp} (F : FunD K x qual params body scope dvs kws f fd) (S : FnScope N ps scope) (len : ∀ a c d vs H Q E, sp a c d vs H Q E → vs.length = ps.length)
    (hbody : ∀ (cdv : Value) (A : Around) (outer : List Env) (s : Shared) (H : Hp) (vs : List V) (Q : VK) (E : XK) (a : Addr) (oe : Obj) (c : Value) (d : Option Addr), (A.deeper (envOfC qual scope s.heap.objs.size f cdv)).guards = some [] → RoomH k (A.deeper (envOfC qual scope s.heap.objs.size f cdv)) → Zc c d oe → (∃ fs, oe.data = .fields fs) → sp a c d vs H Q E →
      ∃ t, PSs (cxH CX0 P w K mg base N qual scope f cdv A outer s H E (a, oe)) body t ∧ t { nx := fun _ H' => Q .non H', rt := Q } (L2.start N vs) H) : FnQ P w K mg base (k + 1) f fd ps sp := by
  obtain ⟨oc, od, dV, kV, doc, pm, an, cdv, ct, osl, rfl, lk, hcd, _, _⟩ := F.ex
  refine ⟨len, fun A outer s H args us vs Q E a oe c d hgd hr hpin hz hf e0 hb r hsp => ?_⟩
  have hlv := len _ _ _ _ _ _ _ hsp
  have KX : K.In s.heap := e0.mod.kin.keeps fun b o e => (e0.bs b o e).1
  have lim : s.heap.NoLimit := e0.mod.nolimit.keeps fun b o e => (e0.bs b o e).1
  have hkd : ∀ y ∈ ps.zip us, scope.names.lookup y.1 = some .local ∨ (scope.names.lookup y.1 = some .cell ∧ ((cellsFrom (s.heap.objs.size + 1) scope.names []).lookup y.1).isSome = true) := fun ⟨n, v⟩ hy => by
    rcases S.par n (List.of_mem_zip hy).1 with q | q
    · exact .inl q
    · exact .inr ⟨q, PySem.W.cellsFrom_some _ _ _ (.inl q)⟩
  refine codeAny_call_function hr.depth (KX _ _ lk) rfl S.co S.gen rfl (PySem.W.codeRec_of KX hcd) (hb _ _ _ _ ?_)
  refine wpAny_newFunctionEnv_cells S.kind hkd fun env he s1 z => ?_
  subst he
  refine ⟨lim.keeps z.toInCall.keep, codeAny_func ?_⟩
  obtain ⟨t, ht, hq⟩ := hbody cdv A outer s H vs Q E a oe c d (deeper_guards hgd) (hr.deeper _) hz hf hsp
  have I : Inv (cxH CX0 P w K mg base N qual scope f cdv A outer s H E (a, oe)) [] (L2.start N vs) H s1 := inv_startH S hpin e0 hlv r z
  refine wpAny_mono (ht.run [] s1 (L2.start N vs) H _ I hq) (fun fl s' hs => ?_) fun e s' hs => hs
  cases fl with
  | ret u =>
    obtain ⟨v, σ', H', J, rv, q⟩ := hs
    exact ⟨v, H', J.os, J.bare, J.base, J.hok, rv, q⟩
  | next =>
    obtain ⟨σ', H', J, q⟩ := hs
    exact ⟨V.non, H', J.os, J.bare, J.base, J.hok, rfl, q⟩
  | brk =>
    obtain ⟨_, _, _, q⟩ := hs
    exact q.elim
  | cont =>
    obtain ⟨_, _, _, q⟩ := hs
    exact q.elim
end
section
variable {X : Cx} {k : Nat} {f : Addr} {fd : FuncData} {ps : List Str} {sp : Addr → Value → Option Addr → Sp} {x : Str} {p pos : Pos} {e : Expr} {es : List Expr} {t : TA} {a : Addr} {oe : Obj} {c : Value} {d : Option Addr}
theorem pe_callQ (F : FnQ X.prog X.w X.K X.mg X.base k f fd ps sp) (hgd : X.A.guards = some []) (hr : RoomH k X.A) (hp : (a, oe) ∈ X.pn) (hz : Zc c d oe) (hf : ∃ vs, oe.data = .fields vs) (hg : Gl X x) (hm : X.mg x = some (.ref f)) (hk : PySem.W.keepIn X.K (.ref f) = true) (hb : Binds X.K fd ps [])
    (ha : PA X (e :: es) t) (hdb : (x == ("__debug__" : Str)) = false := by decide) (he : starEach (e :: es) X.env = (false, eval e X.env) :: starEach es X.env := by rfl) (hpl : (backTo pos (starEach es X.env)).any (·.1) = false := by rfl) :
    PE X (.Call (.Name x p) (e :: es) [] pos) (tCall (sp a c d) [] E0 t) := by
  refine ⟨fun pins s σ H Q I h => ?_⟩
  refine wpAny_Call_Name_kw (ld_glob I hg hm ?_ hdb)
  refine PySem.W.callWith_K (h₀ := X.base) I.ok.mod.kin hk (thn (ha.run pos pins s σ H _ I h) fun us s1 ⟨vs, H1, I1, r, q⟩ => ⟨I1.kIn, ?_⟩) he hpl
  have r2 : Vals (vs ++ []) (us ++ []) := r.append .nil
  have hl : (us ++ []).length = ps.length := by
    rw [← r2.length]
    exact F.len _ _ _ _ _ _ _ q
  have P1 := I1.pin (a, oe) (List.mem_append_left _ hp)
  have hpin : PinOk X.stack H1 s1 (a, oe) := ⟨P1.1, P1.2.1, fun hm => (List.mem_cons.mp (I1.stkSub a hm)).elim P1.2.2.1 P1.2.2.2.1, P1.2.2.2.2⟩
  refine wpAny_call (codeAny_mono (F.run X.A X.stack s1 H1 ⟨us, []⟩ (us ++ []) (vs ++ []) Q E0 a oe c d hgd hr hpin hz hf I1.env0 (hb s1 us I1.kIn hl) r2 q) fun r s' hq => ?_)
  cases r with
  | error er => exact hq.elim
  | ok fl =>
    cases fl with
    | ret u => exact I1.after hq
    | next => exact hq.elim
    | brk => exact hq.elim
    | cont => exact hq.elim
end
end Hy
set_option Elab.async false
set_option linter.all false
set_option maxRecDepth 100000
set_option maxHeartbeats 8000000
namespace Pg
open PySem PySem.Spec PyProof.Rows L2 Gd Rl Te Nu TL Hy Fx
abbrev sIx : Stmt := top 20
abbrev sCk : Stmt := top 38
abbrev sAt : Stmt := inClass sCls 7
/-- a def from which errors go out -/
theorem okX {P : Program} {w : World} {K : PySem.W.Frag} {mg : Str → Option Value} {base : Heap} {x qual : Str} {params : Arguments} {body : List Stmt} {scope : Scope} {dvs : List V} {kws : List (Str × V)} {f : Addr} {fd : FuncData} {N ps : List Str} {k : Nat} {sp : Sp}
    (F : FunD K x qual params body scope dvs kws f fd) (S : FnScope N ps scope) (len : ∀ vs H Q E, sp vs H Q E → vs.length = ps.length)
    (hbody : ∀ (cdv : Value) (A : Around) (outer : List Env) (s : Shared) (H : Hp) (vs : List V) (Q : VK) (E : XK), Room k (A.deeper (envOfC qual scope s.heap.objs.size f cdv)) → sp vs H Q E →
      ∃ t, PSs (cxOf (L2.CX P w) P w K mg base N qual scope f cdv A outer s H E) body t ∧ t { nx := fun _ H' => Q .non H', rt := Q } (L2.start N vs) H) : FnOk P w K mg base (L2.CX P w) (k + 1) f fd ps sp := by
  obtain ⟨oc, od, dV, kV, doc, pm, an, cdv, ct, osl, rfl, lk, hcd, _, _⟩ := F.ex
  exact fn_of lk hcd S len fun A outer s H vs Q E hr hsp => hbody cdv A outer s H vs Q E hr hsp
def ixB (m : Nat) : PyData → Bool
  | .int i => decide (0 ≤ i) && decide (i < (m : Int))
  | _ => false
/-- what is known of an own error of one field -/
structure ErrK (prog : Program) (K : PySem.W.Frag) (mg : Str → Option Value) (x : Str) (C W fI : Addr) (f : Str) : Prop where
  e : Err1 prog K mg "ValueError.__new__" "ValueError.__init__" [.type "ValueError", .type "Exception", .type "BaseException", .type "object"] C W fI f
  g : mg x = some (.ref C)
  sub : PySem.W.subIn K (.ref C) (.type "BaseException") = some true
  ty : PySem.W.typeIn K (.ref C) = some (.type "type")
section
variable {P : Program} {w : World} {K : PySem.W.Frag} {mg : Str → Option Value} {base : Heap} {f C : Addr} {fd : FuncData}
theorem scIx : FnScope ["value", "many"] ["value", "many"] (defScope sIx) := ⟨rfl, rfl, rfl, by decide +kernel, rfl, by decide +kernel, by decide +kernel⟩
theorem ok_ix {fI : Addr} {dI : FuncData} (F : FnP K "is_index" sIx f fd) (T : Mo mg) (FI : FnP K "is_integer" sInt fI dI) (gI : mg "is_integer" = some (.ref fI)) : FnOk P w K mg base CX0 2 f fd ["value", "many"] (spJ2 K ixB) := by
  have GI : FnOk P w K mg base CX0 1 fI dI ["value"] (spJ K intB) := ok_int FI T
  have bI : Binds K dI ["value"] [] := FI.bindsN fun _ _ _ _ _ _ us hl => match us, hl with | [_], _ => rfl
  refine F.ok scIx (fun vs H Q E h => ?_) (fun cdv A outer s H vs Q E hr h => ?_)
  · obtain ⟨v, d, m, rfl, _⟩ := h
    rfl
  · obtain ⟨v, d, m, rfl, hd, ho, k⟩ := h
    refine ⟨_, PSs.nox <| pss_one (ps_ret (pe_and (pe_call GI hr (by rfl) gI FI.kp bI .nil pass0 (pa_cons (pv 0) pa_nil)) (pe_one (pe_chain op_le op_lt pe_int (pv 0) (pv 1))))), ?_⟩
    refine ⟨_, rfl, v, d, rfl, hd, ho, fun H' s => ?_⟩
    have k0 := k H' s
    cases d with
    | int i =>
      have hv : v = V.int i := by
        rcases hd with hd | ⟨a, kvs, ds, _, _, _, e⟩
        · cases hd
          rfl
        · cases e
      subst hv
      rw [show ixB m (.int i) = (decide ((0 : Int) ≤ i) && decide (i < (m : Int))) from rfl] at k0
      refine ⟨true, rfl, iteT ?_⟩
      refine ⟨_, rfl, _, _, rfl, rfl, _, rfl, ?_⟩
      by_cases h1 : (0 : Int) ≤ i
      · rw [decide_eq_true h1] at k0 ⊢
        rw [Bool.true_and] at k0
        exact ⟨_, rfl, _, _, rfl, rfl, k0⟩
      · rw [decide_eq_false h1] at k0 ⊢
        exact k0
    | bool b => exact ⟨false, rfl, iteF k0⟩
    | none => exact ⟨false, rfl, iteF k0⟩
    | str z => exact ⟨false, rfl, iteF k0⟩
    | list ds => exact ⟨false, rfl, iteF k0⟩
    | tuple ds => exact ⟨false, rfl, iteF k0⟩
    | dict ds => exact ⟨false, rfl, iteF k0⟩
/-- an index of the program, or an error with the value -/
def spCk (K : PySem.W.Frag) (C CE : Addr) : Sp := fun vs H Q E => ∃ (p : Addr) (v : V) (d : PyData) (ns : List Str) (ss : List (Str × List Int)) (as : List Arm), vs = [.ref p, v] ∧ ProgAt K C H p ns ss as ∧ OkP ns ss as ∧ Rp K H v d ∧ okD d = true ∧
  (ixB as.length d = true → ∀ H', Same H H' → Q .non H') ∧ (ixB as.length d = false → ∀ H1 dd, Same H H1 → H1 dd = none → E (.ref CE) (some dd) (upd H1 dd (.xd [("given", v)])))
theorem scCk : FnScope ["program", "index"] ["program", "index"] (defScope sCk) := ⟨rfl, rfl, rfl, by decide +kernel, rfl, by decide +kernel, by decide +kernel⟩
theorem ok_ck {CE WE fE fX p3 g3 : Addr} {dX d3 : FuncData} (F : FnP K "check_index" sCk f fd) (T : Mo mg) (X : Txt K mg C) (FX : FnP K "is_index" sIx fX dX) (gX : mg "is_index" = some (.ref fX)) (GX : FnOk P w K mg base CX0 2 fX dX ["value", "many"] (spJ2 K ixB))
    (P3 : PropOf K C "branches" p3 g3) (F3 : FunP K "branches" "Program.branches" sGb g3 d3) (XE : ErrK P K mg "InvalidIndex" CE WE fE "given") : FnOk P w K mg base (L2.CX P w) 4 f fd ["program", "index"] (spCk K C CE) := by
  have H3 : FnOk P w K mg base CX0 1 g3 d3 ["self"] (spGet K C fun ns ss as v H => Dp K H v (armsD as)) := ok_gbranches F3 X
  have b3 : Binds K d3 ["self"] [] := F3.bindsN fun _ _ _ _ _ _ us hl => match us, hl with | [_], _ => rfl
  have bX : Binds K dX ["value", "many"] [] := FX.bindsN fun _ _ _ _ _ _ us hl => match us, hl with | [_, _], _ => rfl
  refine okX F scCk (fun vs H Q E h => ?_) (fun cdv A outer s H vs Q E hr h => ?_)
  · obtain ⟨p, v, d, ns, ss, as, rfl, _⟩ := h
    rfl
  · obtain ⟨p, v, d, ns, ss, as, rfl, hp, ok, hd, ho, kY, kN⟩ := h
    have hr2 := hr.mono (show 2 ≤ 3 by decide)
    refine ⟨_, pss_one (ps_if (pt_not (pt_val (pe_call GX hr2 (by rfl) gX FX.kp bX .nil pass0 (pa_cons (pv 1) (pa_cons (pe_callB call_len (by rfl) T.len PySem.boot_len (pa_cons (pe_prop (pv 0) X.cl P3 H3 hr2 b3 .nil pass0 (by rfl)) pa_nil)) pa_nil)))))
      (pss_one (ps_raise rfl (takes_of rfl rfl rfl rfl) (pmk_err rootV XE.e (raises_own XE.sub XE.ty) hr2 XE.g (by rfl) (pv 1)))) pss_nil), ?_⟩
    obtain ⟨dx, _, _, _, _, hx, _⟩ := id hp
    refine ⟨_, rfl, _, rfl, p, dx, _, rfl, hx, p, ns, ss, as, rfl, hp, ok, fun v1 h1 => ?_⟩
    obtain ⟨c, cs, rfl, hc, lc⟩ := arms_lenH h1
    refine ⟨_, _, rfl, .inr ⟨_, hc, rfl⟩, ?_⟩
    rw [lc]
    refine ⟨v, d, as.length, rfl, hd, ho, fun H' s => ?_⟩
    cases hb : ixB as.length d with
    | true =>
      exact ⟨_, rfl, iteF (kY hb H' s)⟩
    | false =>
      exact ⟨_, rfl, iteT ⟨_, rfl, fun dd nd => kN hb H' dd s nd⟩⟩
end
end Pg
set_option Elab.async false
set_option linter.all false
set_option maxRecDepth 100000
set_option maxHeartbeats 8000000
namespace Te
open PySem PySem.Spec PyProof.Rows L2 Gd Rl RZ
theorem walk_zipT {K : PySem.W.Frag} {a b : Addr} {xs ys : List V} {n : Nat} (hn : n = min xs.length ys.length) : Walk (ItzT K a b) n (fun H => SqT K H a xs ∧ SqT K H b ys) (YPair (fun i => xs[i]?) (fun i => ys[i]?)) := by
  subst hn
  refine ⟨fun i _ hi q => ?_, fun _ q => ⟨xs, ys, q.1, q.2, by omega⟩, fun i H v H' _ q y => ?_⟩
  · have h1 : i < xs.length := by omega
    have h2 : i < ys.length := by omega
    exact ⟨xs, ys, xs[i], ys[i], q.1, q.2, by simp [h1], by simp [h2]⟩
  · obtain ⟨T, x, z, h1, h2, h3, h4, h5⟩ := y
    exact ⟨T, x, z, h1, h2, h3, h4 xs q.1, h5 ys q.2⟩
end Te
namespace Pg
open PySem PySem.Spec PyProof.Rows L2 Gd Rl Te Nu RZ StX
abbrev sWei : Stmt := top 26
abbrev sVal : Stmt := top 27
/-! ### the value of a form at a point -/
theorem mulI : ∀ {X : Cx}, OpR X (binaryOp .Mult) (rI (fun i j => IntMulOk i j) fun i j => .int (i * j)) := fun {X} => opI fun _ _ _ _ _ _ _ hc q => mul_int q hc
def Bt (ns : List Int) : Prop := ∀ z ∈ ns, Builtin.Int.intBits z ≤ 1000000
def sumS (g xs : List Int) (n : Nat) : Int := ((List.range n).map fun i => g.getD i 0 * xs.getD i 0).sum
def valS (g xs : List Int) : Int := sumS g xs xs.length + g.getD xs.length 0
theorem sum_snoc (l : List Int) (x : Int) : (l ++ [x]).sum = l.sum + x := by simp
theorem sumS_one (g xs : List Int) : sumS g (xs ++ [1]) (xs.length + 1) = valS g xs := by
  unfold valS sumS
  rw [List.range_succ, List.map_append, List.map_singleton, sum_snoc]
  congr 1
  · congr 1
    apply List.map_congr_left
    intro i hi
    have h : i < xs.length := List.mem_range.mp hi
    rw [List.getD_eq_getElem?_getD (l := xs ++ [1]), List.getElem?_append_left h, ← List.getD_eq_getElem?_getD]
  · rw [List.getD_eq_getElem?_getD (l := xs ++ [1]), List.getElem?_append_right (Nat.le_refl _), Nat.sub_self]
    show g.getD xs.length 0 * 1 = _
    rw [Int.mul_one]
theorem getD_mem {l : List Int} {i : Nat} (h : i < l.length) : l.getD i 0 ∈ l := by
  rw [List.getD_eq_getElem?_getD, List.getElem?_eq_getElem h]
  exact List.getElem_mem h
theorem fd_ints {K : PySem.W.Frag} {H : Hp} {v : V} {g : List Int} (h : Dp K H v (fD g)) : ∃ a, v = .ref a ∧ SqT K H a (g.map V.int) := by
  obtain ⟨a, xs, rfl, hs, ha⟩ := rp_tup (.inl h)
  refine ⟨a, rfl, ?_⟩
  have e : xs = g.map V.int := by
    have l := dp_len ha
    rw [List.length_map] at l
    apply list_is l
    intro i y ey
    obtain ⟨s, es, hd⟩ := map_at ha ey
    cases hd
    exact ⟨s, es, rfl⟩
  rw [← e]
  exact hs
theorem bt_num {g : List Int} (h : ∀ i ∈ g, -1000000 ≤ i ∧ i ≤ 1000000) : Bt g := fun z m => by
  have h2 := h z m
  have e : (2 : Nat) ^ 20 = 1048576 := by decide
  exact Nat.le_trans (intBits_le_iff.mpr (show z.natAbs < 2 ^ 20 by omega)) (by decide)
structure MoW (mg : Str → Option Value) : Prop where
  sum : mg "sum" = none
  zip : mg "zip" = none
section
variable {P : Program} {w : World} {K : PySem.W.Frag} {mg : Str → Option Value} {base : Heap} {f : Addr} {fd : FuncData}
def spWei (K : PySem.W.Frag) : Sp := fun vs H Q _ => ∃ (a b : Addr) (g xs : List Int), vs = [.ref a, .ref b] ∧ SqT K H a (g.map V.int) ∧ SqT K H b (xs.map V.int) ∧ g.length = xs.length ∧ xs.length ≤ 1000 ∧ Bt g ∧ Bt xs ∧ ∀ H', Same H H' → Q (.int (sumS g xs xs.length)) H'
abbrev nWei : List Str := ["form", "numbers", "one", "other"]
theorem scWei : FnScope nWei ["form", "numbers"] (defScope sWei) := ⟨rfl, rfl, rfl, by decide +kernel, rfl, by decide +kernel, by decide +kernel⟩
theorem ok_wei (F : FnP K "weighed" sWei f fd) (M : MoW mg) : FnOk P w K mg base CX0 1 f fd ["form", "numbers"] (spWei K) := by
  refine F.ok scWei (fun vs H Q E h => ?_) (fun cdv A outer s H vs Q E hr h => ?_)
  · obtain ⟨a, b, g, xs, rfl, _⟩ := h
    rfl
  · obtain ⟨a, b, g, xs, rfl, ha, hb, hl, h1, bg, bx, k⟩ := h
    refine ⟨_, PSs.nox <| pss_one (ps_ret (pe_callB (cr_sum rfl) (by rfl) M.sum (by decide +kernel) (pa_cons (pe_lc (own := [("one", 2), ("other", 3)]) (g := gTup K 2 (gCons (gName 2) (gCons (gName 3) gNil))) (tt := tYes) rfl scWei.nd (pi_zipA (by rfl) M.zip (pa_cons (pv 0) (pa_cons (pv 1) pa_nil))) (blkOk_by (N := nWei) (sc := defScope sWei) (by decide +kernel))
        (fun _ _ _ _ _ => pg_tup (by rfl) (pgs_cons (pg_name (i := 2) scWei.nd rfl (.inl rfl)) (pgs_cons (pg_name (i := 3) scWei.nd rfl (.inl rfl)) pgs_nil)))
        (fun _ _ _ _ _ => pts_nil) (fun _ _ _ _ _ => pe_op mulI (pv 2) (pv 3))) pa_nil))), ?_⟩
    refine ⟨_, rfl, _, rfl, a, b, _, _, rfl, .inr ⟨ha, hb, lcR (walk_zipT (xs := g.map V.int) (ys := xs.map V.int) (n := xs.length) (by rw [List.length_map, List.length_map, hl]; omega)) (n1 := h1) (fun H' s' => ⟨Same.seqT s' ha, Same.seqT s' hb⟩) (fun i y _ => y = .int (g.getD i 0 * xs.getD i 0)) (fun _ _ _ _ _ e => e) ?_ ?_⟩⟩
    · rintro D acc i x Ha Hb K2 hi s nD hD ⟨T, y, z, rfl, nT, rfl, ey, ez⟩ kk
      replace ey : (g.map V.int)[i]? = some y := ey
      replace ez : (xs.map V.int)[i]? = some z := ez
      have e1 : y = .int (g.getD i 0) := by
        rw [List.getElem?_map, List.getElem?_eq_getElem (by omega)] at ey
        rw [List.getD_eq_getElem?_getD, List.getElem?_eq_getElem (show i < g.length by omega)]
        exact (Option.some.inj ey).symm
      have e2 : z = .int (xs.getD i 0) := by
        rw [List.getElem?_map, List.getElem?_eq_getElem hi] at ez
        rw [List.getD_eq_getElem?_getD, List.getElem?_eq_getElem hi]
        exact (Option.some.inj ez).symm
      subst e1 e2
      refine ⟨T, _, rfl, SqT.of upd_same, rfl, _, _, rfl, _, _, rfl, rfl, rfl, ?_⟩
      exact ⟨_, rfl, _, rfl, _, _, rfl, rfl, IntMulOk.of_le (bg _ (getD_mem (show i < g.length by omega))) (bx _ (getD_mem hi)) (by decide), kk _ _ (same_new nT) rfl⟩
    · rintro D Hb ys nw hlen he
      have ey : ys = ((List.range xs.length).map fun i => g.getD i 0 * xs.getD i 0).map V.int := by
        rw [List.map_map]
        exact list_of hlen he
      exact ⟨D, _, rfl, by rw [← ey]; exact SqL.of nw.2.1, k Hb nw.2.2⟩
def spVal (K : PySem.W.Frag) : Sp := fun vs H Q _ => ∃ (u v : V) (g xs : List Int), vs = [u, v] ∧ Dp K H u (fD g) ∧ Dp K H v (fD xs) ∧ g.length = xs.length + 1 ∧ xs.length ≤ 900 ∧ Bt g ∧ Bt xs ∧ ∀ H', Same H H' → Q (.int (valS g xs)) H'
theorem scVal : FnScope ["form", "point"] ["form", "point"] (defScope sVal) := ⟨rfl, rfl, rfl, by decide +kernel, rfl, by decide +kernel, by decide +kernel⟩
theorem ok_val {fW : Addr} {dW : FuncData} (F : FnP K "value_at" sVal f fd) (M : MoW mg) (FW : FnP K "weighed" sWei fW dW) (gW : mg "weighed" = some (.ref fW)) : FnOk P w K mg base CX0 2 f fd ["form", "point"] (spVal K) := by
  have GW : FnOk P w K mg base CX0 1 fW dW ["form", "numbers"] (spWei K) := ok_wei FW M
  have bW : Binds K dW ["form", "numbers"] [] := FW.bindsN fun _ _ _ _ _ _ us hl => match us, hl with | [_, _], _ => rfl
  refine F.ok scVal (fun vs H Q E h => ?_) (fun cdv A outer s H vs Q E hr h => ?_)
  · obtain ⟨u, v, g, xs, rfl, _⟩ := h
    rfl
  · obtain ⟨u, v, g, xs, rfl, hu, hv, hl, h1, bg, bx, k⟩ := h
    refine ⟨_, PSs.nox <| pss_one (ps_ret (pe_call GW hr (by rfl) gW FW.kp bW .nil pass0 (pa_cons (pv 0) (pa_cons (pe_tupR (pa_star (pv 1) (pa_cons pe_int pa_nil))) pa_nil)))), ?_⟩
    obtain ⟨a, rfl, ha⟩ := fd_ints hu
    obtain ⟨b, rfl, hb⟩ := fd_ints hv
    refine ⟨_, rfl, _, rfl, b, _, rfl, .inl hb, by rw [List.length_append, List.length_map]; show xs.length + 1 ≤ 1000; omega, fun p H1 n1 => ?_⟩
    refine ⟨a, p, g, xs ++ [1], rfl, Same.seqT n1.2.2 ha, SqT.of (by rw [n1.2.1, List.map_append]; rfl), by rw [List.length_append]; exact hl, by rw [List.length_append]; show xs.length + 1 ≤ 1000; omega, bg, fun z hz => ?_, fun H2 s2 => ?_⟩
    · rcases List.mem_append.mp hz with hz | hz
      · exact bx z hz
      · rw [List.mem_singleton.mp hz]
        decide
    · rw [List.length_append]
      show _
      have := k H2 (n1.2.2.trans s2)
      rw [← sumS_one] at this
      exact this
end
end Pg
set_option Elab.async false
set_option linter.all false
set_option maxRecDepth 100000
set_option maxHeartbeats 8000000
namespace Pg
open PySem PySem.Spec PyProof.Rows L2 Gd Rl Te Nu TL Hy Fx
abbrev sFi : Stmt := top 55
abbrev sBe : Stmt := top 56
/-! ### what a branch says at a point -/
def fitsS (a : Arm) (z : Str) (xs : List Int) : Bool := decide (V.str a.src = V.str z) && a.tests.all fun t => decide (valS t xs ≥ 0)
def turnS (a : Arm) (xs : List Int) : List Int := a.turns.map fun t => valS t xs
def lowN (ts : List (List Int)) (xs : List Int) (n : Nat) : List Nat := (List.range n).filter fun k => decide (valS (ts.getD k []) xs < 0)
def lowS (a : Arm) (xs : List Int) : List Nat := lowN a.tests xs a.tests.length
theorem lowN_snoc (ts : List (List Int)) (xs : List Int) (n : Nat) : lowN ts xs (n + 1) = lowN ts xs n ++ (if valS (ts.getD n []) xs < 0 then [n] else []) := by
  unfold lowN
  rw [List.range_succ, List.filter_append]
  congr 1
  by_cases h : valS (ts.getD n []) xs < 0
  · rw [if_pos h, List.filter_cons, decide_eq_true h]
    rfl
  · rw [if_neg h, List.filter_cons, decide_eq_false h]
    rfl
theorem lowN_first {ts : List (List Int)} {xs : List Int} {i n : Nat} (h0 : lowN ts xs i = []) (hi : valS (ts.getD i []) xs < 0) (hn : i < n) : ∃ r, lowN ts xs n = i :: r := by
  obtain ⟨d, rfl⟩ := Nat.exists_eq_add_of_lt hn
  induction d with
  | zero =>
    refine ⟨[], ?_⟩
    show lowN ts xs (i + 1) = _
    rw [lowN_snoc, h0, if_pos hi]
    rfl
  | succ d ih =>
    obtain ⟨r, e⟩ := ih (by omega)
    refine ⟨r ++ (if valS (ts.getD (i + d + 1) []) xs < 0 then [i + d + 1] else []), ?_⟩
    show lowN ts xs ((i + d + 1) + 1) = _
    rw [lowN_snoc, e]
    rfl
theorem low_fits (a : Arm) (z : Str) (xs : List Int) : fitsS a z xs = (decide (V.str a.src = V.str z) && decide (lowS a xs = [])) := by
  unfold fitsS lowS lowN
  congr 1
  rw [Bool.eq_iff_iff, decide_eq_true_iff, List.all_eq_true, List.filter_eq_nil_iff]
  constructor
  · intro h k hk hd
    have hk' := List.mem_range.mp hk
    have h2 := of_decide_eq_true (h (a.tests[k]) (List.getElem_mem hk'))
    rw [List.getD_eq_getElem?_getD, List.getElem?_eq_getElem hk'] at hd
    have h3 := of_decide_eq_true hd
    exact absurd h3 (Int.not_lt.mpr h2)
  · intro h t ht
    obtain ⟨k, hk, rfl⟩ := List.getElem_of_mem ht
    have h2 := h k (List.mem_range.mpr hk)
    rw [List.getD_eq_getElem?_getD, List.getElem?_eq_getElem hk] at h2
    apply decide_eq_true
    exact Int.not_lt.mp fun q => h2 (decide_eq_true q)
/-- what is known of a form of a branch -/
theorem forms_at {m : Nat} {ts : List (List Int)} (h : formsB m (.tuple (ts.map fD)) = true) {g : List Int} (hg : g ∈ ts) : g.length = m + 1 ∧ Bt g := by
  have h1 : (ts.map fD).all (formB m) = true := h
  have h2 := List.all_eq_true.mp h1 _ (List.mem_map_of_mem hg)
  have h3 : (decide ((g.map PyData.int).length = m + 1) && (g.map PyData.int).all numB) = true := h2
  rw [Bool.and_eq_true] at h3
  have h4 := of_decide_eq_true h3.1
  rw [List.length_map] at h4
  refine ⟨h4, bt_num fun i hi => ?_⟩
  have h5 := List.all_eq_true.mp h3.2 _ (List.mem_map_of_mem hi)
  have h6 : (decide (-1000000 ≤ i) && decide (i ≤ 1000000)) = true := h5
  rw [Bool.and_eq_true] at h6
  exact ⟨of_decide_eq_true h6.1, of_decide_eq_true h6.2⟩
structure KinP (K : PySem.W.Frag) (C : Addr) : Prop where
  ha : PySem.W.findIn K (.ref C) "__class__" = some (some (.builtin "object.__class__"))
  hn : PySem.W.specialIn K (.builtin "object.__class__") "__get__" = some (some (.builtin "getset_descriptor.__get__"))
  ht : PySem.W.takesIn K (.builtin "object.__class__") = some true
  hm : PySem.W.mroIn K C (.type "object") = some true
  own : PySem.W.kitOne K (.ref C) (.ref C) = some true
structure ErrA (prog : Program) (K : PySem.W.Frag) (mg : Str → Option Value) (x : Str) (C W fI : Addr) (f : Str) : Prop where
  e : Err1 prog K mg "ArithmeticError.__new__" "ArithmeticError.__init__" [.type "ArithmeticError", .type "Exception", .type "BaseException", .type "object"] C W fI f
  g : mg x = some (.ref C)
  sub : PySem.W.subIn K (.ref C) (.type "BaseException") = some true
  ty : PySem.W.typeIn K (.ref C) = some (.type "type")
section
variable {P : Program} {w : World} {K : PySem.W.Frag} {mg : Str → Option Value} {base : Heap} {f C : Addr} {fd : FuncData}
/-! ### what is asked, asked rightly -/
def spCkR (K : PySem.W.Frag) (C : Addr) : Sp := fun vs H Q _ => ∃ (p : Addr) (i : Nat) (ns : List Str) (ss : List (Str × List Int)) (as : List Arm), vs = [.ref p, .int i] ∧ ProgAt K C H p ns ss as ∧ OkP ns ss as ∧ i < as.length ∧ ∀ H', Same H H' → Q .non H'
theorem ok_ckR {fX p3 g3 : Addr} {dX d3 : FuncData} (F : FnP K "check_index" sCk f fd) (T : Mo mg) (X : Txt K mg C) (FX : FnP K "is_index" sIx fX dX) (gX : mg "is_index" = some (.ref fX)) (GX : FnOk P w K mg base CX0 2 fX dX ["value", "many"] (spJ2 K ixB))
    (P3 : PropOf K C "branches" p3 g3) (F3 : FunP K "branches" "Program.branches" sGb g3 d3) : FnOk P w K mg base CX0 3 f fd ["program", "index"] (spCkR K C) := by
  have H3 : FnOk P w K mg base CX0 1 g3 d3 ["self"] (spGet K C fun ns ss as v H => Dp K H v (armsD as)) := ok_gbranches F3 X
  have b3 : Binds K d3 ["self"] [] := F3.bindsN fun _ _ _ _ _ _ us hl => match us, hl with | [_], _ => rfl
  have bX : Binds K dX ["value", "many"] [] := FX.bindsN fun _ _ _ _ _ _ us hl => match us, hl with | [_, _], _ => rfl
  refine F.ok scCk (fun vs H Q E h => ?_) (fun cdv A outer s H vs Q E hr h => ?_)
  · obtain ⟨p, i, ns, ss, as, rfl, _⟩ := h
    rfl
  · obtain ⟨p, i, ns, ss, as, rfl, hp, ok, hi, k⟩ := h
    refine ⟨_, PSs.nox <| pss_one (ps_if (pt_not (pt_val (pe_call GX hr (by rfl) gX FX.kp bX .nil pass0 (pa_cons (pv 1) (pa_cons (pe_callB call_len (by rfl) T.len PySem.boot_len (pa_cons (pe_prop (pv 0) X.cl P3 H3 hr b3 .nil pass0 (by rfl)) pa_nil)) pa_nil)))))
      (pss_one ps_never) pss_nil), ?_⟩
    obtain ⟨dx, _, _, _, _, hx, _⟩ := id hp
    refine ⟨_, rfl, _, rfl, p, dx, _, rfl, hx, p, ns, ss, as, rfl, hp, ok, fun v1 h1 => ?_⟩
    obtain ⟨c, cs, rfl, hc, lc⟩ := arms_lenH h1
    refine ⟨_, _, rfl, .inr ⟨_, hc, rfl⟩, ?_⟩
    rw [lc]
    refine ⟨_, .int i, as.length, rfl, .inl (.int _), rfl, fun H' s => ⟨_, rfl, ?_⟩⟩
    have e : ixB as.length (.int (i : Nat)) = true := by
      show (decide ((0 : Int) ≤ (i : Nat)) && decide (((i : Nat) : Int) < (as.length : Int))) = true
      rw [decide_eq_true (by omega), decide_eq_true (by omega)]
      rfl
    rw [e]
    exact iteF (k H' s)
end
end Pg
set_option Elab.async false
set_option linter.all false
set_option maxRecDepth 100000
set_option maxHeartbeats 8000000
namespace Pg
open PySem PySem.Spec PyProof.Rows L2 Gd Rl Te Nu TL Hy Fx
section
variable {P : Program} {w : World} {K : PySem.W.Frag} {mg : Str → Option Value} {base : Heap} {f C : Addr} {fd : FuncData}
/-! ### whether a branch can be taken -/
def spFi (K : PySem.W.Frag) : Sp := fun vs H Q _ => ∃ (u v : V) (z : Str) (a : Arm) (xs : List Int), vs = [u, .str z, v] ∧ Dp K H u (armD a) ∧ Dp K H v (fD xs) ∧ ArmOk xs.length a ∧ xs.length ≤ 900 ∧ Bt xs ∧ ∀ H', Same H H' → Q (.bl (fitsS a z xs)) H'
abbrev nFi : List Str := ["branch", "place", "point", "test"]
theorem scFi : FnScope nFi ["branch", "place", "point"] (defScope sFi) := ⟨rfl, rfl, rfl, by decide +kernel, rfl, by decide +kernel, by decide +kernel⟩
theorem arm_at {H : Hp} {u : V} {a : Arm} (h : Dp K H u (armD a)) : ∃ (p : Addr) (t c : V), u = .ref p ∧ SqT K H p [.str a.src, .str a.tgt, t, c] ∧ Dp K H t (.tuple (a.tests.map fD)) ∧ Dp K H c (.tuple (a.turns.map fD)) := by
  obtain ⟨p, zs, rfl, hp, hz⟩ := rp_tup (.inl h)
  cases hz with
  | cons z0 h1 =>
  cases h1 with
  | cons z1 h2 =>
  cases h2 with
  | cons z2 h3 =>
  cases h3 with
  | cons z3 h4 =>
  cases h4
  cases z0
  cases z1
  exact ⟨p, _, _, rfl, hp, z2, z3⟩
theorem ok_fi {fV fW : Addr} {dV dW : FuncData} (F : FnP K "fits" sFi f fd) (T : Mo mg) (M : MoW mg) (FV : FnP K "value_at" sVal fV dV) (gV : mg "value_at" = some (.ref fV)) (FW : FnP K "weighed" sWei fW dW) (gW : mg "weighed" = some (.ref fW)) : FnOk P w K mg base CX0 3 f fd ["branch", "place", "point"] (spFi K) := by
  have GV : FnOk P w K mg base CX0 2 fV dV ["form", "point"] (spVal K) := ok_val FV M FW gW
  have bV : Binds K dV ["form", "point"] [] := FV.bindsN fun _ _ _ _ _ _ us hl => match us, hl with | [_, _], _ => rfl
  refine F.ok scFi (fun vs H Q E h => ?_) (fun cdv A outer s H vs Q E hr h => ?_)
  · obtain ⟨u, v, z, a, xs, rfl, _⟩ := h
    rfl
  · obtain ⟨u, v, z, a, xs, rfl, hu, hv, ao, h9, bx, k⟩ := h
    refine ⟨_, PSs.nox <| pss_one (ps_ret (pe_and (pe_cmpR op_eq (pe_ix (r := rIxT K) ix_tup (pv 0) pe_int (fun _ _ => rfl)) (pv 1) (nomark _))
      (pe_one (pe_callB (cr_all rfl) (by rfl) T.all (by decide +kernel) (pa_cons (pe_lc (own := [("test", 3)]) (g := gName 3) (tt := tYes) rfl scFi.nd (pi_tup (pe_ix (r := rIxT K) ix_tup (pv 0) pe_int (fun _ _ => rfl))) (blkOk_by (N := nFi) (sc := defScope sFi) (by decide +kernel)) (fun _ _ _ _ _ => pg_name (i := 3) scFi.nd rfl (Or.inl rfl)) (fun _ _ _ _ _ => pts_nil)
          (fun _ _ _ _ _ => pe_cmpR op_ge (pe_call GV hr (by rfl) gV FV.kp bV .nil pass0 (pa_cons (pv 3) (pa_cons (pv 2) pa_nil))) pe_int (nomark _))) pa_nil))))), ?_⟩
    obtain ⟨p, t, c, rfl, hp, ht, hc⟩ := arm_at hu
    obtain ⟨tt, ts, rfl, htt, hts⟩ := rp_tup (.inl ht)
    have lt := dp_len hts
    rw [List.length_map] at lt
    have t3 := ao.t3
    refine ⟨_, rfl, p, _, 0, _, rfl, rfl, hp, rfl, _, rfl, rfl, _, rfl, ?_⟩
    by_cases h1 : V.str a.src = V.str z
    · rw [decide_eq_true h1]
      refine ⟨_, rfl, p, _, 2, _, rfl, rfl, hp, rfl, tt, rfl, ⟨_, htt⟩, lcR (walk_tup (xs := ts)) (n1 := by omega) (fun H' s' => Same.seqT s' htt) (fun i y _ => y = .bl (decide (valS (a.tests.getD i []) xs ≥ 0))) (fun _ _ _ _ _ e => e) ?_ ?_⟩
      · rintro D acc i x Ha Hb K2 hi s nD hD ⟨rfl, ex⟩ kk
        obtain ⟨g, eg, hg⟩ := map_at hts ex
        obtain ⟨gl, gb⟩ := forms_at ao.ts (List.mem_of_getElem? eg)
        have e2 : a.tests.getD i [] = g := by
          rw [List.getD_eq_getElem?_getD, eg]
          rfl
        refine ⟨rfl, _, rfl, _, rfl, _, _, g, xs, rfl, dp_same s _ hg, dp_same s _ hv, gl, h9, gb, bx, fun H' s' => ?_⟩
        exact ⟨_, _, rfl, rfl, kk _ _ s' (by rw [e2])⟩
      · rintro D Hb ys nw hlen he
        have ey : ys = ((List.range a.tests.length).map fun i => decide (valS (a.tests.getD i []) xs ≥ 0)).map V.bl := by
          rw [List.map_map]
          exact list_of (by rw [hlen, lt]) he
        refine ⟨D, _, rfl, by rw [← ey]; exact SqL.of nw.2.1, ?_⟩
        have e3 : (((List.range a.tests.length).map fun i => decide (valS (a.tests.getD i []) xs ≥ 0)).all id) = a.tests.all fun t => decide (valS t xs ≥ 0) := by
          have e : ((List.range a.tests.length).map fun i => decide (valS (a.tests.getD i []) xs ≥ 0)) = a.tests.map fun t => decide (valS t xs ≥ 0) := by
            apply List.ext_getElem
            · simp
            · intro i h1 h2
              simp only [List.length_map, List.length_range] at h1
              simp [List.getD_eq_getElem?_getD, List.getElem?_eq_getElem h1]
          rw [e, List.all_map]
          rfl
        have k0 := k Hb nw.2.2
        unfold fitsS at k0
        rw [decide_eq_true h1, Bool.true_and] at k0
        rw [e3]
        exact k0
    · rw [decide_eq_false h1]
      have k0 := k H (Same.refl H)
      unfold fitsS at k0
      rw [decide_eq_false h1, Bool.false_and] at k0
      exact k0
/-! ### the state behind -/
def spBe (K : PySem.W.Frag) : Sp := fun vs H Q _ => ∃ (u v : V) (a : Arm) (xs : List Int), vs = [u, v] ∧ Dp K H u (armD a) ∧ Dp K H v (fD xs) ∧ ArmOk xs.length a ∧ xs.length ≤ 900 ∧ Bt xs ∧ ∀ q r H', Same H H' → SqT K H' q [.str a.tgt, r] → Dp K H' r (fD (turnS a xs)) → Q (.ref q) H'
abbrev nBe : List Str := ["branch", "point", "change"]
theorem scBe : FnScope nBe ["branch", "point"] (defScope sBe) := ⟨rfl, rfl, rfl, by decide +kernel, rfl, by decide +kernel, by decide +kernel⟩
theorem ok_be {fV fW : Addr} {dV dW : FuncData} (F : FnP K "state_behind" sBe f fd) (T : Mo mg) (M : MoW mg) (FV : FnP K "value_at" sVal fV dV) (gV : mg "value_at" = some (.ref fV)) (FW : FnP K "weighed" sWei fW dW) (gW : mg "weighed" = some (.ref fW)) : FnOk P w K mg base CX0 3 f fd ["branch", "point"] (spBe K) := by
  have GV : FnOk P w K mg base CX0 2 fV dV ["form", "point"] (spVal K) := ok_val FV M FW gW
  have bV : Binds K dV ["form", "point"] [] := FV.bindsN fun _ _ _ _ _ _ us hl => match us, hl with | [_, _], _ => rfl
  refine F.ok scBe (fun vs H Q E h => ?_) (fun cdv A outer s H vs Q E hr h => ?_)
  · obtain ⟨u, v, a, xs, rfl, _⟩ := h
    rfl
  · obtain ⟨u, v, a, xs, rfl, hu, hv, ao, h9, bx, k⟩ := h
    refine ⟨_, PSs.nox <| pss_one (ps_ret (pe_tupR (pa_cons (pe_ix (r := rIxT K) ix_tup (pv 0) pe_int (fun _ _ => rfl)) (pa_cons (pe_callTy call_tuple_of (by rfl) T.tuple (by decide +kernel) (pa_cons (pe_lc (own := [("change", 2)]) (g := gName 2) (tt := tYes) rfl scBe.nd (pi_tup (pe_ix (r := rIxT K) ix_tup (pv 0) pe_int (fun _ _ => rfl))) (blkOk_by (N := nBe) (sc := defScope sBe) (by decide +kernel)) (fun _ _ _ _ _ => pg_name (i := 2) scBe.nd rfl (Or.inl rfl)) (fun _ _ _ _ _ => pts_nil)
          (fun _ _ _ _ _ => pe_call GV hr (by rfl) gV FV.kp bV .nil pass0 (pa_cons (pv 2) (pa_cons (pv 1) pa_nil)))) pa_nil)) pa_nil)))), ?_⟩
    obtain ⟨p, t, c, rfl, hp, ht, hc⟩ := arm_at hu
    obtain ⟨tt, ts, rfl, htt, hts⟩ := rp_tup (.inl hc)
    have lt := dp_len hts
    rw [List.length_map] at lt
    have cm := ao.cm
    refine ⟨_, rfl, p, _, 1, _, rfl, rfl, hp, rfl, _, rfl, p, _, 3, _, rfl, rfl, hp, rfl, tt, rfl, ⟨_, htt⟩, lcR (walk_tup (xs := ts)) (n1 := by omega) (fun H' s' => Same.seqT s' htt) (fun i y _ => y = .int (valS (a.turns.getD i []) xs)) (fun _ _ _ _ _ e => e) ?_ ?_⟩
    · rintro D acc i x Ha Hb K2 hi s nD hD ⟨rfl, ex⟩ kk
      obtain ⟨g, eg, hg⟩ := map_at hts ex
      obtain ⟨gl, gb⟩ := forms_at ao.cs (List.mem_of_getElem? eg)
      have e2 : a.turns.getD i [] = g := by
        rw [List.getD_eq_getElem?_getD, eg]
        rfl
      exact ⟨rfl, _, rfl, _, rfl, _, _, g, xs, rfl, dp_same s _ hg, dp_same s _ hv, gl, h9, gb, bx, fun H' s' => kk _ _ s' (by rw [e2])⟩
    · rintro D Hb ys nw hlen he
      have ey : ys = (turnS a xs).map V.int := by
        have : ys = ((List.range a.turns.length).map fun i => valS (a.turns.getD i []) xs).map V.int := by
          rw [List.map_map]
          exact list_of (by rw [hlen, lt]) he
        rw [this]
        congr 1
        unfold turnS
        apply List.ext_getElem
        · simp
        · intro i h1 h2
          simp only [List.length_map, List.length_range] at h1
          simp [List.getD_eq_getElem?_getD, List.getElem?_eq_getElem h1]
      subst ey
      refine ⟨D, _, rfl, .inl ⟨SqL.of nw.2.1, fun q1 nq1 => ?_⟩⟩
      have s1 := same_new (o := .tup ((turnS a xs).map V.int)) nq1
      refine ⟨(show 2 ≤ 1000 by decide), fun q2 H2 n2 => ?_⟩
      refine k q2 (.ref q1) H2 (nw.2.2.trans (s1.trans n2.2.2)) (SqT.of n2.2.1) (dp_ints (SqT.of (n2.2.2 _ _ upd_same)))
end
end Pg
set_option Elab.async false
set_option linter.all false
set_option maxRecDepth 100000
set_option maxHeartbeats 8000000
namespace Pg
open PySem PySem.Spec PyProof.Rows L2 Gd Rl Te Nu TL Hy Fx Ow
abbrev sIt : Stmt := top 60
abbrev sIs : Stmt := top 61
abbrev sAb : Stmt := top 77
abbrev sCe : Stmt := top 78
abbrev sSa : Stmt := top 79
/-- the state behind n branches -/
def stW (as : List Arm) (ws : List Nat) (pl : Str) (xs : List Int) : Nat → Option (Str × List Int)
  | 0 => some (pl, xs)
  | n + 1 => (stW as ws pl xs n).bind fun s => (as[ws.getD n 0]?).bind fun a => if fitsS a s.1 s.2 = true then some (a.tgt, turnS a s.2) else none
def tupB (m : Nat) : PyData → Bool
  | .tuple ds => decide (ds.length = m)
  | _ => false
def ofN (ws : List Nat) : List Int := ws.map fun i : Nat => (i : Int)
theorem arm_of {K : PySem.W.Frag} {H : Hp} {v : V} {as : List Arm} {i : Nat} (h : Dp K H v (armsD as)) (hi : i < as.length) : ∃ (c : Addr) (cs : List V) (u : V) (a : Arm), v = .ref c ∧ SqT K H c cs ∧ atI cs (i : Int) = some u ∧ as[i]? = some a ∧ Dp K H u (armD a) := by
  obtain ⟨c, cs, rfl, hc, hcs⟩ := rp_tup (.inl h)
  have lc := dp_len hcs
  rw [List.length_map] at lc
  have e1 : cs[i]? = some (cs[i]'(by omega)) := List.getElem?_eq_getElem (by omega)
  obtain ⟨a, ea, hz⟩ := map_at hcs e1
  exact ⟨c, cs, _, a, rfl, hc, atI_nat e1, ea, hz⟩
/-- where the checker's helpers stand -/
structure Chk (K : PySem.W.Frag) (mg : Str → Option Value) (C fX fY fI fV fW fF fB p1 g1 p3 g3 p5 g5 fL : Addr) (dX dY dI dV dW dF dB d1 d3 d5 dL : FuncData) : Prop where
  x : Txt K mg C
  m : MoW mg
  ix : FnP K "is_index" sIx fX dX
  gix : mg "is_index" = some (.ref fX)
  ia : FnP K "are_integers" sInts fY dY
  gia : mg "are_integers" = some (.ref fY)
  ii : FnP K "is_integer" sInt fI dI
  gii : mg "is_integer" = some (.ref fI)
  v : FnP K "value_at" sVal fV dV
  gv : mg "value_at" = some (.ref fV)
  w : FnP K "weighed" sWei fW dW
  gw : mg "weighed" = some (.ref fW)
  f : FnP K "fits" sFi fF dF
  gf : mg "fits" = some (.ref fF)
  b : FnP K "state_behind" sBe fB dB
  gb : mg "state_behind" = some (.ref fB)
  p1 : PropOf K C "names" p1 g1
  f1 : FunP K "names" "Program.names" sGn g1 d1
  p3 : PropOf K C "branches" p3 g3
  f3 : FunP K "branches" "Program.branches" sGb g3 d3
  p5 : PropOf K C "places" p5 g5
  f5 : FunP K "places" "Program.places" sGp g5 d5
  l : FunP K "__len__" "Program.__len__" sLen fL dL
  dl : Dun K C "__len__" fL
section
variable {P : Program} {w : World} {K : PySem.W.Frag} {mg : Str → Option Value} {base : Heap} {f C : Addr} {fd : FuncData}
variable {fX fY fI fV fW fF fB p1 g1 p3 g3 p5 g5 fL : Addr} {dX dY dI dV dW dF dB d1 d3 d5 dL : FuncData}
def spIt (K : PySem.W.Frag) : Sp := fun vs H Q _ => ∃ (v : V) (d : PyData) (m : Nat), vs = [v, .int (m : Nat)] ∧ Rp K H v d ∧ Q (.bl (tupB m d)) H
theorem scIt : FnScope ["value", "many"] ["value", "many"] (defScope sIt) := ⟨rfl, rfl, rfl, by decide +kernel, rfl, by decide +kernel, by decide +kernel⟩
theorem ok_it (F : FnP K "_is_tuple" sIt f fd) (T : Mo mg) : FnOk P w K mg base CX0 1 f fd ["value", "many"] (spIt K) := by
  refine F.ok scIt (fun vs H Q E h => ?_) (fun cdv A outer s H vs Q E hr h => ?_)
  · obtain ⟨v, d, m, rfl, _⟩ := h
    rfl
  · obtain ⟨v, d, m, rfl, hd, k⟩ := h
    refine ⟨_, PSs.nox <| pss_one (ps_ret (pe_and (pe_callB (call_isD (T := "tuple")) (by rfl) T.isi boot_isinstance (pa_cons (pv 0) (pa_cons (pe_bltn (v := .ty "tuple") (by rfl) T.tuple (by decide +kernel) rfl) pa_nil)))
      (pe_one (pe_cmpR op_eq (pe_callB call_len (by rfl) T.len PySem.boot_len (pa_cons (pv 0) pa_nil)) (pv 1) (nomark _))))), ?_⟩
    refine ⟨_, rfl, v, d, _, rfl, hd, kit_tuple d, _, rfl, ?_⟩
    cases d with
    | tuple ds =>
      obtain ⟨a, xs, rfl, hs, ha⟩ := rp_tup hd
      have lx := dp_len ha
      refine ⟨_, rfl, _, xs.length, rfl, .inr ⟨_, hs, rfl⟩, _, rfl, rfl, ?_⟩
      have e : decide (V.int ((xs.length : Nat) : Int) = V.int (m : Nat)) = tupB m (.tuple ds) := by
        show _ = decide (ds.length = m)
        rw [lx]
        by_cases q : ds.length = m
        · rw [decide_eq_true q, decide_eq_true (by rw [q])]
        · rw [decide_eq_false q, decide_eq_false (fun e => q (by have := V.int.inj e; omega))]
      rw [e]
      exact k
    | int i => exact k
    | bool i => exact k
    | none => exact k
    | str i => exact k
    | list i => exact k
    | dict i => exact k
/-! ### a state of the program -/
def spIs (K : PySem.W.Frag) (C : Addr) : Sp := fun vs H Q _ => ∃ (p : Addr) (z : Str) (v : V) (xs : List Int) (ns : List Str) (ss : List (Str × List Int)) (as : List Arm), vs = [.ref p, .str z, v] ∧ ProgAt K C H p ns ss as ∧ OkP ns ss as ∧ z ∈ placesS ss as ∧ Dp K H v (fD xs) ∧ xs.length = ns.length ∧ ∀ H', Same H H' → Q (.bl true) H'
theorem scIs : FnScope ["program", "place", "point"] ["program", "place", "point"] (defScope sIs) := ⟨rfl, rfl, rfl, by decide +kernel, rfl, by decide +kernel, by decide +kernel⟩
theorem ints_true (xs : List Int) : intsB xs.length (fD xs) = true := by
  show (decide ((xs.map PyData.int).length = xs.length) && _) = true
  rw [List.length_map, decide_eq_true rfl, Bool.true_and]
  exact List.all_eq_true.mpr fun x hx => by obtain ⟨z, _, rfl⟩ := List.mem_map.mp hx; rfl
theorem okAll_ints : ∀ xs : List Int, okAll (xs.map PyData.int) = true
  | [] => by rw [List.map_nil, okAll]
  | x :: xs => by
    rw [List.map_cons, okAll, okAll_ints xs]
    rfl
theorem okD_f {xs : List Int} (h : xs.length ≤ 1000) : okD (fD xs) = true := by
  show okD (.tuple (xs.map PyData.int)) = true
  rw [okD, okAll_ints, List.length_map, decide_eq_true h]
  rfl
theorem ok_is (F : FnP K "_is_state" sIs f fd) (T : Mo mg) (L : Chk K mg C fX fY fI fV fW fF fB p1 g1 p3 g3 p5 g5 fL dX dY dI dV dW dF dB d1 d3 d5 dL) : FnOk P w K mg base CX0 3 f fd ["program", "place", "point"] (spIs K C) := by
  have GY : FnOk P w K mg base CX0 2 fY dY ["value", "many"] (spJ2 K intsB) := ok_areints L.ia T L.ii L.gii
  have bY : Binds K dY ["value", "many"] [] := L.ia.bindsN fun _ _ _ _ _ _ us hl => match us, hl with | [_, _], _ => rfl
  have H1 : FnOk P w K mg base CX0 1 g1 d1 ["self"] (spGet K C fun ns ss as v H => Dp K H v (namesD ns)) := ok_gnames L.f1 L.x
  have b1 : Binds K d1 ["self"] [] := L.f1.bindsN fun _ _ _ _ _ _ us hl => match us, hl with | [_], _ => rfl
  have H5 : FnOk P w K mg base CX0 1 g5 d5 ["self"] (spGet K C fun ns ss as v H => ∃ d, v = .ref d ∧ SqT K H d ((placesS ss as).map V.str)) := ok_gplaces L.f5 L.x
  have b5 : Binds K d5 ["self"] [] := L.f5.bindsN fun _ _ _ _ _ _ us hl => match us, hl with | [_], _ => rfl
  refine F.ok scIs (fun vs H Q E h => ?_) (fun cdv A outer s H vs Q E hr h => ?_)
  · obtain ⟨p, z, v, xs, ns, ss, as, rfl, _⟩ := h
    rfl
  · obtain ⟨p, z, v, xs, ns, ss, as, rfl, hp, ok, hz, hv, hl, k⟩ := h
    refine ⟨_, PSs.nox <| pss_one (ps_ret (pe_and (pe_callB (call_isD (T := "str")) (by rfl) T.isi boot_isinstance (pa_cons (pv 1) (pa_cons (pe_bltn (v := .ty "str") (by rfl) T.str (by decide +kernel) rfl) pa_nil)))
      (pe_and (pe_cmpR (r := rIn K false) op_in_seq (pv 1) (pe_prop (pv 0) L.x.cl L.p5 H5 hr b5 .nil pass0 (by rfl)) (by rfl))
      (pe_one (pe_call GY hr (by rfl) L.gia L.ia.kp bY .nil pass0 (pa_cons (pv 2) (pa_cons (pe_callB call_len (by rfl) T.len PySem.boot_len (pa_cons (pe_prop (pv 0) L.x.cl L.p1 H1 hr b1 .nil pass0 (by rfl)) pa_nil)) pa_nil))))))), ?_⟩
    obtain ⟨dx, _, _, _, _, hx, _⟩ := id hp
    refine ⟨_, rfl, _, .str z, _, rfl, .inl (.str _), kit_str _, _, rfl, ?_⟩
    refine ⟨_, rfl, _, rfl, p, dx, _, rfl, hx, p, ns, ss, as, rfl, hp, ok, fun v1 h1 => ?_⟩
    obtain ⟨d, rfl, hd⟩ := h1
    refine ⟨d, _, rfl, .inr hd, rfl, flat_strs _, _, rfl, ?_⟩
    rw [show (if (false : Bool) = true then !inV (.str z) ((placesS ss as).map V.str) else inV (.str z) ((placesS ss as).map V.str)) = true by
      rw [if_neg (by decide), inV_strs]
      exact List.contains_iff_mem.mpr hz]
    have n3 := ok.n.three
    refine ⟨_, rfl, _, rfl, p, dx, _, rfl, hx, p, ns, ss, as, rfl, hp, ok, fun v2 h2 => ?_⟩
    obtain ⟨c, cs, rfl, hc, hcs⟩ := rp_tup (.inl h2)
    have lc := dp_len hcs
    rw [List.length_map] at lc
    refine ⟨_, cs.length, rfl, .inr ⟨_, hc, rfl⟩, v, fD xs, cs.length, rfl, .inl hv, okD_f (by omega), fun H' s' => ?_⟩
    have e : intsB cs.length (fD xs) = true := by
      rw [lc, ← hl]
      exact ints_true xs
    rw [e]
    exact k H' s'
/-! ### indexes of branches -/
def spAb (K : PySem.W.Frag) (C : Addr) : Sp := fun vs H Q _ => ∃ (p : Addr) (v : V) (zs : List Int) (ns : List Str) (ss : List (Str × List Int)) (as : List Arm), vs = [.ref p, v] ∧ ProgAt K C H p ns ss as ∧ OkP ns ss as ∧ Dp K H v (fD zs) ∧ zs.length ≤ 900 ∧ ∀ H', Same H H' → Q (.bl (zs.all fun z => ixB as.length (.int z))) H'
theorem scAb : FnScope ["program", "value", "index"] ["program", "value"] (defScope sAb) := ⟨rfl, rfl, rfl, by decide +kernel, rfl, by decide +kernel, by decide +kernel⟩
theorem ok_ab (F : FnP K "_are_branches" sAb f fd) (T : Mo mg) (L : Chk K mg C fX fY fI fV fW fF fB p1 g1 p3 g3 p5 g5 fL dX dY dI dV dW dF dB d1 d3 d5 dL) : FnOk P w K mg base CX0 3 f fd ["program", "value"] (spAb K C) := by
  have GX : FnOk P w K mg base CX0 2 fX dX ["value", "many"] (spJ2 K ixB) := ok_ix L.ix T L.ii L.gii
  have bX : Binds K dX ["value", "many"] [] := L.ix.bindsN fun _ _ _ _ _ _ us hl => match us, hl with | [_, _], _ => rfl
  have HL : FnOk P w K mg base CX0 1 fL dL ["self"] (spGet K C fun ns ss as v _ => v = .int as.length) := ok_len L.l T L.x
  have bL : Binds K dL ["self"] [] := L.l.bindsN fun _ _ _ _ _ _ us hl => match us, hl with | [_], _ => rfl
  refine F.ok scAb (fun vs H Q E h => ?_) (fun cdv A outer s H vs Q E hr h => ?_)
  · obtain ⟨p, v, zs, ns, ss, as, rfl, _⟩ := h
    rfl
  · obtain ⟨p, v, zs, ns, ss, as, rfl, hp, ok, hv, l9, k⟩ := h
    refine ⟨_, PSs.nox <| pss_one (ps_ret (pe_and (pe_callB (call_isD (T := "tuple")) (by rfl) T.isi boot_isinstance (pa_cons (pv 1) (pa_cons (pe_bltn (v := .ty "tuple") (by rfl) T.tuple (by decide +kernel) rfl) pa_nil)))
      (pe_one (pe_callB (cr_all rfl) (by rfl) T.all (by decide +kernel) (pa_cons (pe_lc (own := [("index", 2)]) (g := gName 2) (tt := tYes) rfl scAb.nd (pi_tup (pv 1)) (blkOk_by (N := ["program", "value", "index"]) (sc := defScope sAb) (by decide +kernel)) (fun _ _ _ _ _ => pg_name (i := 2) scAb.nd rfl (Or.inl rfl)) (fun _ _ _ _ _ => pts_nil)
        (fun _ _ _ _ _ => pe_call GX hr (by rfl) L.gix L.ix.kp bX .nil pass0 (pa_cons (pv 2) (pa_cons (pe_callB (r := rOwn C (spGet K C fun ns ss as v _ => v = .int as.length) fun v => ∃ n : Int, v = .int n ∧ 0 ≤ n ∧ n < 2 ^ 63) (call_lenO HL hr bL L.dl) (by rfl) T.len PySem.boot_len (pa_cons (pv 0) pa_nil)) pa_nil)))) pa_nil))))), ?_⟩
    obtain ⟨a, xs, rfl, hs, ha⟩ := rp_tup (.inl hv)
    have lx := dp_len ha
    rw [List.length_map] at lx
    have a5 := ok.a.five
    refine ⟨_, rfl, _, _, _, rfl, .inl hv, kit_tuple _, _, rfl, ?_⟩
    refine ⟨_, rfl, a, rfl, ⟨_, hs⟩, lcR (walk_tup (xs := xs)) (n1 := by omega) (fun H' s' => Same.seqT s' hs) (fun i y _ => y = .bl (ixB as.length (.int (zs.getD i 0)))) (fun _ _ _ _ _ e => e) ?_ ?_⟩
    · rintro D acc i x Ha Hb K2 hi s nD hD ⟨rfl, ex⟩ kk
      obtain ⟨n, en, hz⟩ := map_at ha ex
      have eg : zs.getD i 0 = n := by
        rw [List.getD_eq_getElem?_getD, en]
        rfl
      cases hz
      have hp2 := hp.same s
      obtain ⟨dx, _, _, _, _, hx, _⟩ := id hp2
      refine ⟨rfl, _, rfl, _, rfl, p, dx, _, rfl, hx, p, ns, ss, as, rfl, hp2, ok, fun v1 e1 => ⟨⟨_, e1, by omega, by omega⟩, ?_⟩⟩
      subst e1
      refine ⟨_, .int n, as.length, rfl, .inl (.int _), rfl, fun H3 s3 => kk _ _ s3 (by rw [eg])⟩
    · rintro D Hb ys nw hlen he
      have ey : ys = ((List.range zs.length).map fun i => ixB as.length (.int (zs.getD i 0))).map V.bl := by
        rw [List.map_map]
        exact list_of (by rw [hlen, lx]) he
      refine ⟨D, _, rfl, by rw [← ey]; exact SqL.of nw.2.1, ?_⟩
      have e3 : (((List.range zs.length).map fun i => ixB as.length (.int (zs.getD i 0))).all id) = zs.all fun z => ixB as.length (.int z) := by
        have e : ((List.range zs.length).map fun i => ixB as.length (.int (zs.getD i 0))) = zs.map fun z => ixB as.length (.int z) := by
          apply List.ext_getElem
          · simp
          · intro i h1 h2
            simp only [List.length_map, List.length_range] at h1
            simp [List.getD_eq_getElem?_getD, List.getElem?_eq_getElem h1]
        rw [e, List.all_map]
        rfl
      rw [e3]
      exact k Hb nw.2.2
/-! ### the state behind branches -/
def spSa (K : PySem.W.Frag) (C : Addr) : Sp := fun vs H Q _ => ∃ (p : Addr) (u v : V) (pl : Str) (xs : List Int) (ws : List Nat) (ns : List Str) (ss : List (Str × List Int)) (as : List Arm), vs = [.ref p, u, v] ∧ ProgAt K C H p ns ss as ∧ OkP ns ss as ∧ Dp K H u (plD (pl, xs)) ∧ xs.length = ns.length ∧ Dp K H v (fD (ofN ws)) ∧ (∀ i ∈ ws, i < as.length) ∧ ws.length ≤ 900 ∧
  (∀ n s, n ≤ ws.length → stW as ws pl xs n = some s → Bt s.2) ∧ (stW as ws pl xs ws.length = none → ∀ H', Same H H' → Q .non H') ∧ (∀ s, stW as ws pl xs ws.length = some s → ∀ z H', Same H H' → Dp K H' z (plD s) → Q z H')
abbrev nSa : List Str := ["program", "state", "indexes", "index", "branch"]
theorem scSa : FnScope nSa ["program", "state", "indexes"] (defScope sSa) := ⟨rfl, rfl, rfl, by decide +kernel, rfl, by decide +kernel, by decide +kernel⟩
theorem stW_none {as : List Arm} {ws : List Nat} {pl : Str} {xs : List Int} {j : Nat} (h : stW as ws pl xs j = none) : ∀ n, j ≤ n → stW as ws pl xs n = none
  | n, hn => by
    induction n with
    | zero =>
      have : j = 0 := by omega
      rw [this] at h
      exact h
    | succ n ih =>
      rcases Nat.lt_or_ge n j with q | q
      · have : j = n + 1 := by omega
        rw [← this]
        exact h
      · rw [stW, ih q]
        rfl
theorem st_at {K : PySem.W.Frag} {H : Hp} {u : V} {s : Str × List Int} (h : Dp K H u (plD s)) : ∃ (t : Addr) (r : V), u = .ref t ∧ SqT K H t [.str s.1, r] ∧ Dp K H r (fD s.2) := by
  obtain ⟨t, zs, rfl, ht, hz⟩ := rp_tup (.inl h)
  cases hz with
  | cons z0 h1 =>
  cases h1 with
  | cons z1 h2 =>
  cases h2
  cases z0
  exact ⟨t, _, rfl, ht, z1⟩
theorem st_mk {K : PySem.W.Frag} {H : Hp} {t : Addr} {r : V} {s : Str × List Int} (h : SqT K H t [.str s.1, r]) (hr : Dp K H r (fD s.2)) : Dp K H (.ref t) (plD s) := .tup h (.cons (.str _) (.cons hr .nil))
theorem ok_sa (F : FnP K "_state_after" sSa f fd) (T : Mo mg) (L : Chk K mg C fX fY fI fV fW fF fB p1 g1 p3 g3 p5 g5 fL dX dY dI dV dW dF dB d1 d3 d5 dL) : FnOk P w K mg base CX0 4 f fd ["program", "state", "indexes"] (spSa K C) := by
  have GF : FnOk P w K mg base CX0 3 fF dF ["branch", "place", "point"] (spFi K) := ok_fi L.f T L.m L.v L.gv L.w L.gw
  have BF : Binds K dF ["branch", "place", "point"] [] := L.f.bindsN fun _ _ _ _ _ _ us hl => match us, hl with | [_, _, _], _ => rfl
  have G5 : FnOk P w K mg base CX0 3 fB dB ["branch", "point"] (spBe K) := ok_be L.b T L.m L.v L.gv L.w L.gw
  have B5 : Binds K dB ["branch", "point"] [] := L.b.bindsN fun _ _ _ _ _ _ us hl => match us, hl with | [_, _], _ => rfl
  have H3 : FnOk P w K mg base CX0 1 g3 d3 ["self"] (spGet K C fun ns ss as v H => Dp K H v (armsD as)) := ok_gbranches L.f3 L.x
  have b3 : Binds K d3 ["self"] [] := L.f3.bindsN fun _ _ _ _ _ _ us hl => match us, hl with | [_], _ => rfl
  refine F.ok scSa (fun vs H Q E h => ?_) (fun cdv A outer s H vs Q E hr h => ?_)
  · obtain ⟨p, u, v, pl, xs, ws, ns, ss, as, rfl, _⟩ := h
    rfl
  · obtain ⟨p, u, v, pl, xs, ws, ns, ss, as, rfl, hp, ok, hu, hl, hv, hws, lw, bb, kN, kY⟩ := h
    have hr2 := hr.mono (show 2 ≤ 3 by decide)
    refine ⟨_, PSs.nox <| pss_cons (ps_for PassesOwn.never rfl (pi_tup (pv 2)) (pg_name (i := 3) scSa.nd rfl (.inl rfl))
        (pss_cons (ps_set (i := 4) scSa.nd rfl (.inl rfl) (pe_ix (r := rIxT K) ix_tup (pe_prop (pv 0) L.x.cl L.p3 H3 hr2 b3 .nil pass0 (by rfl)) (pv 3) (fun _ _ => rfl)))
        <| pss_cons (ps_if (pt_not (pt_val (pe_call GF hr (by rfl) L.gf L.f.kp BF .nil pass0 (pa_cons (pv 4) (pa_cons (pe_ix (r := rIxT K) ix_tup (pv 1) pe_int (fun _ _ => rfl)) (pa_cons (pe_ix (r := rIxT K) ix_tup (pv 1) pe_int (fun _ _ => rfl)) pa_nil)))))) (pss_one (ps_ret pe_non)) pss_nil)
        <| pss_one (ps_set (i := 1) scSa.nd rfl (.inl rfl) (pe_call G5 hr (by rfl) L.gb L.b.kp B5 .nil pass0 (pa_cons (pv 4) (pa_cons (pe_ix (r := rIxT K) ix_tup (pv 1) pe_int (fun _ _ => rfl)) pa_nil))))))
      <| pss_one (ps_ret (pv 1)), ?_⟩
    have n3 := ok.n.three
    obtain ⟨a, is, rfl, hs, ha⟩ := rp_tup (.inl hv)
    have la := dp_len ha
    rw [List.length_map] at la
    have lo : (ofN ws).length = ws.length := by unfold ofN; rw [List.length_map]
    refine ⟨_, rfl, a, rfl, ⟨_, hs⟩, for_tup (Pv := fun j σ H' => ∃ (x3 x4 : Option V) (uj : V) (st : Str × List Int), σ = [some (.ref p), some uj, some (.ref a), x3, x4] ∧ Same H H' ∧ stW as ws pl xs j = some st ∧ Dp K H' uj (plD st) ∧ st.2.length = ns.length) ⟨none, none, u, (pl, xs), rfl, Same.refl H, rfl, hu, hl⟩ (fun j σ H' _ ⟨_, _, _, _, _, s, _⟩ => Same.seqT s hs) ?_ ?_⟩
    · rintro j x σ H1 ex ⟨x3, x4, uj, st, rfl, s1, es, du, ls⟩
      obtain ⟨z, ez, hz⟩ := map_at ha ex
      have hj : j < ws.length := by rw [← lo]; exact (List.getElem?_eq_some_iff.mp ez).1
      obtain ⟨n, en, rfl⟩ : ∃ n : Nat, ws[j]? = some n ∧ z = (n : Int) := by
        unfold ofN at ez
        rw [List.getElem?_map] at ez
        obtain ⟨n, en, e⟩ := Option.map_eq_some_iff.mp ez
        exact ⟨n, en, e.symm⟩
      cases hz
      have hn := hws n (List.mem_of_getElem? en)
      have hp1 := hp.same s1
      obtain ⟨dx, _, _, _, _, hx, _⟩ := id hp1
      refine ⟨_, rfl, p, dx, _, rfl, hx, p, ns, ss, as, rfl, hp1, ok, fun v2 h2 => ?_⟩
      obtain ⟨c2, cs2, u2, a2, rfl, hc2, at2, ea2, hu2⟩ := arm_of h2 hn
      have ao := ok.a.arm a2 (List.mem_of_getElem? ea2)
      rw [← ls] at ao
      have bj : Bt st.2 := bb j st (by omega) es
      have egd : ws.getD j 0 = n := by
        rw [List.getD_eq_getElem?_getD, en]
        rfl
      have est : stW as ws pl xs (j + 1) = if fitsS a2 st.1 st.2 = true then some (a2.tgt, turnS a2 st.2) else none := by
        show (stW as ws pl xs j).bind _ = _
        rw [es]
        show (as[ws.getD j 0]?).bind _ = _
        rw [egd, ea2]
        rfl
      obtain ⟨t, r, rfl, ht, dr⟩ := st_at du
      refine ⟨_, rfl, c2, _, _, _, rfl, rfl, hc2, at2, ?_⟩
      refine ⟨_, rfl, _, rfl, t, _, 0, _, rfl, rfl, ht, atI_nat (j := 0) rfl, _, rfl, t, _, 1, _, rfl, rfl, ht, atI_nat (j := 1) rfl, u2, r, st.1, a2, st.2, rfl, hu2, dr, ao, by omega, bj, fun H5 s5 => ⟨_, rfl, ?_⟩⟩
      have s15 := s1.trans s5
      cases hf : fitsS a2 st.1 st.2 with
      | false =>
        rw [hf, if_neg Bool.false_ne_true] at est
        refine iteT ?_
        exact kN (stW_none est _ (by omega)) H5 s15
      | true =>
        rw [hf, if_pos rfl] at est
        refine iteF ?_
        refine ⟨_, rfl, _, rfl, t, _, 1, _, rfl, rfl, Same.seqT s5 ht, atI_nat (j := 1) rfl, u2, r, a2, st.2, rfl, dp_same s5 _ hu2, dp_same s5 _ dr, ao, by omega, bj, fun q r6 H6 s6 hq hr6 => ?_⟩
        refine ⟨_, _, _, (a2.tgt, turnS a2 st.2), rfl, s15.trans s6, est, st_mk hq hr6, ?_⟩
        show (turnS a2 st.2).length = ns.length
        unfold turnS
        rw [List.length_map, ao.cm, ls]
    · rintro σ H3 ⟨x3, x4, uj, st, rfl, s3, es, du, ls⟩
      rw [la, lo] at es
      exact ⟨_, rfl, kY st es uj H3 s3 du⟩
end
end Pg
set_option Elab.async false
set_option linter.all false
set_option maxRecDepth 100000
set_option maxHeartbeats 8000000
namespace Pg
open PySem PySem.Spec PyProof.Rows L2 Gd Rl Te Nu TL Hy Fx Ow
abbrev sAc : Stmt := top 82
/-- whether way and ring show an endless run -/
def endB (as : List Arm) (s : Str × List Int) (ws rs : List Nat) : Bool := match stW as ws s.1 s.2 ws.length with
  | none => false
  | some t => !rs.isEmpty && (match stW as rs t.1 t.2 rs.length with
    | none => false
    | some u => PyData.eqv (plD u) (plD t))
theorem pl_st (s : Str × List Int) : PyData.plain (plD s) = true := by
  show PyData.plain (.tuple [.str s.1, fD s.2]) = true
  simp only [PyData.plain, PyData.plainAll, plain_f]
  rfl
theorem dp_st (s : Str × List Int) : PyData.depth (plD s) ≤ 64 := by
  have := depth_ints s.2
  show PyData.depth (.tuple [.str s.1, .tuple (s.2.map PyData.int)]) ≤ 64
  simp only [PyData.depth, PyData.depthAll]
  omega
theorem pl_none : PyData.plain .none = true := by rw [PyData.plain]
theorem eqv_nt (ds : List PyData) : PyData.eqv .none (.tuple ds) = false := by
  cases e : PyData.eqv .none (.tuple ds) with
  | false => rfl
  | true => simp [PyData.eqv] at e
theorem f_inj {g h : List Int} (e : fD g = fD h) : g = h := by
  have e2 : g.map PyData.int = h.map PyData.int := PyData.tuple.inj e
  clear e
  induction g generalizing h with
  | nil =>
    cases h with
    | nil => rfl
    | cons y ys => cases e2
  | cons x xs ih =>
    cases h with
    | nil => cases e2
    | cons y ys =>
      rw [List.map_cons, List.map_cons] at e2
      obtain ⟨a, b⟩ := List.cons.inj e2
      rw [PyData.int.inj a, ih b]
def okI (m : Nat) (zs : List Int) : Bool := zs.all fun z => ixB m (.int z)
theorem ofN_ok {m : Nat} {ws : List Nat} (h : ∀ i ∈ ws, i < m) : okI m (ofN ws) = true := List.all_eq_true.mpr fun z hz => by
  unfold ofN at hz
  obtain ⟨i, hi, rfl⟩ := List.mem_map.mp hz
  have := h i hi
  show (decide ((0 : Int) ≤ (i : Nat)) && decide (((i : Nat) : Int) < (m : Int))) = true
  rw [decide_eq_true (by omega), decide_eq_true (by omega)]
  rfl
/-- read, found by the class's name -/
structure Rdr (K : PySem.W.Frag) (C mcp fRd : Addr) (mc : Value) (dRd : FuncData) : Prop where
  r : ClX.CRead K C mc
  m : ClX.CMet K C mc "read" mcp fRd
  f : FunP K "read" "Program.read" sRd fRd dRd
section
variable {P : Program} {w : World} {K : PySem.W.Frag} {mg : Str → Option Value} {base : Heap} {f C : Addr} {fd : FuncData}
variable {fX fY fI fV fW fF fB p1 g1 p3 g3 p5 g5 fL : Addr} {dX dY dI dV dW dF dB d1 d3 d5 dL : FuncData}
/-- what the certificate is -/
def CertD (as : List Arm) (s : Str × List Int) (d : PyData) (b : Bool) : Prop :=
  ((∃ ds, d = .list ds) ∧ b = false) ∨ (∃ wz rz, d = .tuple [fD wz, fD rz] ∧ wz.length ≤ 900 ∧ rz.length ≤ 900 ∧ (okI as.length wz && okI as.length rz) = false ∧ b = false) ∨
  ∃ ws rs, d = .tuple [fD (ofN ws), fD (ofN rs)] ∧ ws.length ≤ 900 ∧ rs.length ≤ 900 ∧ (∀ i ∈ ws, i < as.length) ∧ (∀ i ∈ rs, i < as.length) ∧ (∀ n t, n ≤ ws.length → stW as ws s.1 s.2 n = some t → Bt t.2) ∧ (∀ t, stW as ws s.1 s.2 ws.length = some t → t.2.length = s.2.length ∧ ∀ n u, n ≤ rs.length → stW as rs t.1 t.2 n = some u → Bt u.2) ∧ b = endB as s ws rs
def spCe (K : PySem.W.Frag) (C : Addr) : Sp := fun vs H Q _ => ∃ (p t : Addr) (v : V) (d : PyData) (b : Bool) (s : Str × List Int) (ns : List Str) (ss : List (Str × List Int)) (as : List Arm), vs = [.ref p, .ref t, v] ∧ ProgAt K C H p ns ss as ∧ OkP ns ss as ∧ s.1 ∈ placesS ss as ∧ s.2.length = ns.length ∧ Dp K H (.ref t) (plD s) ∧ Dp K H v d ∧ CertD as s d b ∧ ∀ H', Same H H' → Q (.bl b) H'
abbrev nCe : List Str := ["program", "told", "certificate", "way", "ring", "start"]
theorem scCe : FnScope nCe ["program", "told", "certificate"] (defScope sCe) := ⟨rfl, rfl, rfl, by decide +kernel, rfl, by decide +kernel, by decide +kernel⟩
theorem ok_ce {fIt fIs fAb fSa : Addr} {dIt dIs dAb dSa : FuncData} (F : FnP K "_check_endless" sCe f fd) (T : Mo mg) (L : Chk K mg C fX fY fI fV fW fF fB p1 g1 p3 g3 p5 g5 fL dX dY dI dV dW dF dB d1 d3 d5 dL) (FIt : FnP K "_is_tuple" sIt fIt dIt) (gIt : mg "_is_tuple" = some (.ref fIt)) (FIs : FnP K "_is_state" sIs fIs dIs) (gIs : mg "_is_state" = some (.ref fIs))
    (FAb : FnP K "_are_branches" sAb fAb dAb) (gAb : mg "_are_branches" = some (.ref fAb)) (FSa : FnP K "_state_after" sSa fSa dSa) (gSa : mg "_state_after" = some (.ref fSa)) : FnOk P w K mg base CX0 5 f fd ["program", "told", "certificate"] (spCe K C) := by
  have GIt : FnOk P w K mg base CX0 1 fIt dIt ["value", "many"] (spIt K) := ok_it FIt T
  have bIt : Binds K dIt ["value", "many"] [] := FIt.bindsN fun _ _ _ _ _ _ us hl => match us, hl with | [_, _], _ => rfl
  have GIs : FnOk P w K mg base CX0 3 fIs dIs ["program", "place", "point"] (spIs K C) := ok_is FIs T L
  have bIs : Binds K dIs ["program", "place", "point"] [] := FIs.bindsN fun _ _ _ _ _ _ us hl => match us, hl with | [_, _, _], _ => rfl
  have GAb : FnOk P w K mg base CX0 3 fAb dAb ["program", "value"] (spAb K C) := ok_ab FAb T L
  have bAb : Binds K dAb ["program", "value"] [] := FAb.bindsN fun _ _ _ _ _ _ us hl => match us, hl with | [_, _], _ => rfl
  have GSa : FnOk P w K mg base CX0 4 fSa dSa ["program", "state", "indexes"] (spSa K C) := ok_sa FSa T L
  have bSa : Binds K dSa ["program", "state", "indexes"] [] := FSa.bindsN fun _ _ _ _ _ _ us hl => match us, hl with | [_, _, _], _ => rfl
  refine F.ok scCe (fun vs H Q E h => ?_) (fun cdv A outer s H vs Q E hr h => ?_)
  · obtain ⟨p, t, v, d, b, s, ns, ss, as, rfl, _⟩ := h
    rfl
  · obtain ⟨p, t, v, d, b, st, ns, ss, as, rfl, hp, ok, hpl, hl, ht, hv, hC, k⟩ := h
    have hr1 := hr.mono (show 1 ≤ 4 by decide)
    have hr3 := hr.mono (show 3 ≤ 4 by decide)
    refine ⟨_, PSs.nox <| pss_cons (ps_if (PW.pt (pw_or (pt_cmpR op_ne (pe_callB call_len (by rfl) T.len PySem.boot_len (pa_cons (pv 1) pa_nil)) pe_int (nomark _)) (pw_or (pt_not (pt_val (pe_call GIs hr3 (by rfl) gIs FIs.kp bIs .nil pass0 (pa_cons (pv 0) (pa_cons (pe_ix (r := rIxT K) ix_tup (pv 1) pe_int (fun _ _ => rfl)) (pa_cons (pe_ix (r := rIxT K) ix_tup (pv 1) pe_int (fun _ _ => rfl)) pa_nil))))))
          (pw_or1 (pt_not (pt_val (pe_call GIt hr1 (by rfl) gIt FIt.kp bIt .nil pass0 (pa_cons (pv 2) (pa_cons pe_int pa_nil))))))))) (pss_one (ps_ret pe_bl)) pss_nil)
      <| pss_cons (ps_asg (pv 2) (pg_tup (by rfl) (pgs_cons (pg_name (i := 3) scCe.nd rfl (.inl rfl)) (pgs_cons (pg_name (i := 4) scCe.nd rfl (.inl rfl)) pgs_nil))))
      <| pss_cons (ps_if (PW.pt (pw_or (pt_not (pt_val (pe_call GAb hr3 (by rfl) gAb FAb.kp bAb .nil pass0 (pa_cons (pv 0) (pa_cons (pv 3) pa_nil))))) (pw_or (pt_not (pt_val (pe_call GAb hr3 (by rfl) gAb FAb.kp bAb .nil pass0 (pa_cons (pv 0) (pa_cons (pv 4) pa_nil)))))
          (pw_or1 (pt_not (pt_truth (pv 4) (by intro _; rfl))))))) (pss_one (ps_ret pe_bl)) pss_nil)
      <| pss_cons (ps_set (i := 5) scCe.nd rfl (.inl rfl) (pe_call GSa hr (by rfl) gSa FSa.kp bSa .nil pass0 (pa_cons (pv 0) (pa_cons (pv 1) (pa_cons (pv 3) pa_nil)))))
      <| pss_one (ps_ret (pe_and (pe_cmpR op_notN (pv 5) pe_non (nomark _)) (pe_one (pe_cmpR (op_eqP hr.units) (pe_call GSa hr (by rfl) gSa FSa.kp bSa .nil pass0 (pa_cons (pv 0) (pa_cons (pv 5) (pa_cons (pv 4) pa_nil)))) (pv 5) (nomark _))))), ?_⟩
    obtain ⟨t0, r, e0, htt, dr⟩ := st_at ht
    cases e0
    refine ⟨_, rfl, _, 2, rfl, .inr ⟨_, htt, rfl⟩, rfl, _, rfl, iteF ?_⟩
    refine ⟨_, rfl, _, rfl, t, _, 0, _, rfl, rfl, htt, atI_nat (j := 0) rfl, _, rfl, t, _, 1, _, rfl, rfl, htt, atI_nat (j := 1) rfl, p, st.1, r, st.2, ns, ss, as, rfl, hp, ok, hpl, dr, hl, fun H1 s1 => ⟨_, rfl, iteF ?_⟩⟩
    refine ⟨_, rfl, v, d, 2, rfl, .inl (dp_same s1 _ hv), _, rfl, ?_⟩
    rcases hC with ⟨⟨ds, rfl⟩, rfl⟩ | hC
    · exact iteT (k H1 s1)
    have two : ∃ wz rz, d = .tuple [fD wz, fD rz] ∧ wz.length ≤ 900 ∧ rz.length ≤ 900 := by
      rcases hC with ⟨wz, rz, e, h1, h2, _⟩ | ⟨ws, rs, e, h1, h2, _⟩
      · exact ⟨wz, rz, e, h1, h2⟩
      · exact ⟨_, _, e, by unfold ofN; rw [List.length_map]; exact h1, by unfold ofN; rw [List.length_map]; exact h2⟩
    obtain ⟨wz, rz, rfl, lw, lr⟩ := two
    refine iteF ?_
    obtain ⟨c, cs, rfl, hc, hcs⟩ := rp_tup (.inl (dp_same s1 _ hv))
    cases hcs with
    | @cons w0 _ _ _ z0 hw1 =>
    cases hw1 with
    | @cons w1 _ _ _ z1 hw2 =>
    cases hw2
    have hp1 := hp.same s1
    refine ⟨_, rfl, c, _, rfl, hc, rfl, _, _, rfl, _, _, rfl, rfl, ?_⟩
    refine ⟨_, rfl, _, rfl, p, w0, wz, ns, ss, as, rfl, hp1, ok, z0, lw, fun H2 s2 => ⟨_, rfl, ?_⟩⟩
    show if (!okI as.length wz) = true then _ else _
    have fin : ∀ {H' : Hp}, Same H1 H' → okI as.length wz = false ∨ okI as.length rz = false → Q (.bl false) H' := fun {H'} s' hb => by
      rcases hC with ⟨wz', rz', e, _, _, e1, rfl⟩ | ⟨ws, rs, e, _, _, iw, ir, _⟩
      · exact k H' (s1.trans s')
      · exfalso
        have e2 : [fD wz, fD rz] = [fD (ofN ws), fD (ofN rs)] := PyData.tuple.inj e
        obtain ⟨e3, e4⟩ := List.cons.inj e2
        rw [f_inj e3, f_inj (List.cons.inj e4).1, ofN_ok iw, ofN_ok ir] at hb
        rcases hb with hb | hb <;> cases hb
    cases hw : okI as.length wz with
    | false => exact iteT (fin s2 (.inl hw))
    | true =>
      refine iteF ?_
      refine ⟨_, rfl, _, rfl, p, w1, rz, ns, ss, as, rfl, hp1.same s2, ok, dp_same s2 _ z1, lr, fun H3 s3 => ⟨_, rfl, ?_⟩⟩
      show if (!okI as.length rz) = true then _ else _
      have s13 := s2.trans s3
      cases hrz : okI as.length rz with
      | false => exact iteT (fin s13 (.inr hrz))
      | true =>
        refine iteF ?_
        rcases hC with ⟨wz', rz', e, _, _, e1, rfl⟩ | ⟨ws, rs, e, _, _, iw, ir, bw, br, rfl⟩
        · exfalso
          have e2 : [fD wz, fD rz] = [fD wz', fD rz'] := PyData.tuple.inj e
          obtain ⟨e3, e4⟩ := List.cons.inj e2
          rw [← f_inj e3, ← f_inj (List.cons.inj e4).1, hw, hrz] at e1
          cases e1
        have e2 : [fD wz, fD rz] = [fD (ofN ws), fD (ofN rs)] := PyData.tuple.inj e
        obtain ⟨e3, e4⟩ := List.cons.inj e2
        have ew := f_inj e3
        have er := f_inj (List.cons.inj e4).1
        subst ew er
        have s03 := s1.trans s13
        have hp3 := hp1.same s13
        have z0' := dp_same s13 _ z0
        have z1' := dp_same s13 _ z1
        obtain ⟨cr, rvs, rfl, hcr, hcrs⟩ := rp_tup (.inl z1')
        have lrv := dp_len hcrs
        have lo : ∀ us : List Nat, (ofN us).length = us.length := fun us => by unfold ofN; rw [List.length_map]
        rw [List.length_map, lo] at lrv
        refine ⟨_, rfl, !rs.isEmpty, .inr (.inl ⟨_, hcr, ?_⟩), ?_⟩
        · cases rs with
          | nil =>
            cases rvs with
            | nil => rfl
            | cons => cases lrv
          | cons =>
            cases rvs with
            | nil => cases lrv
            | cons => rfl
        have lw2 : ws.length ≤ 900 := by rw [← lo]; exact lw
        have lr2 : rs.length ≤ 900 := by rw [← lo]; exact lr
        cases hre : rs.isEmpty with
        | true =>
          refine iteT (k H3 s03 |> fun q => ?_)
          have e : endB as st ws rs = false := by
            unfold endB
            rw [hre]
            split <;> rfl
          rw [e] at q
          exact q
        | false =>
          refine iteF ?_
          refine ⟨_, rfl, _, rfl, _, rfl, p, .ref t, w0, st.1, st.2, ws, ns, ss, as, rfl, hp3, ok, dp_same s03 _ ht, hl, z0', iw, lw2, bw, fun hn H4 s4 => ?_, fun u hs z H4 s4 hz => ?_⟩
          · refine ⟨_, rfl, rfl, _, rfl, ?_⟩
            have q := k H4 (s03.trans s4)
            have e : endB as st ws rs = false := by
              unfold endB
              rw [hn]
            rw [e] at q
            exact q
          · obtain ⟨tz, rz2, rfl, htz, drz⟩ := st_at hz
            obtain ⟨lu, bu⟩ := br u hs
            refine ⟨_, rfl, rfl, _, rfl, ?_⟩
            have hp4 := hp3.same s4
            refine ⟨_, rfl, _, rfl, _, rfl, p, .ref tz, .ref cr, u.1, u.2, rs, ns, ss, as, rfl, hp4, ok, hz, by rw [lu, hl], dp_same s4 _ z1', ir, lr2, bu, fun hn H5 s5 => ?_, fun u2 hs2 z2 H5 s5 hz2 => ?_⟩
            · refine ⟨_, rfl, .none, plD u, .non, dp_same s5 _ hz, pl_none, pl_st _, by decide +kernel, ?_⟩
              rw [show PyData.eqv .none (plD u) = false from eqv_nt _]
              have q := k H5 ((s03.trans s4).trans s5)
              have e : endB as st ws rs = false := by
                unfold endB
                rw [hs]
                show (!rs.isEmpty && _) = false
                rw [hn, Bool.and_false]
              rw [e] at q
              exact q
            · refine ⟨_, rfl, plD u2, plD u, hz2, dp_same s5 _ hz, pl_st _, pl_st _, dp_st _, ?_⟩
              have q := k H5 ((s03.trans s4).trans s5)
              have e : endB as st ws rs = PyData.eqv (plD u2) (plD u) := by
                unfold endB
                rw [hs]
                show (!rs.isEmpty && _) = _
                rw [hs2, hre]
                rfl
              rw [e] at q
              exact q
/-! ### accepts -/
variable {fN fS fU fCN fCS fCB fB2 fP fW2 fA fO fF2 fY2 fX2 fI2 : Addr} {dN dS dU dCN dCS dCB dB2 dP dW2 dA dO dF2 dY2 dX2 dI2 : FuncData}
def spAc (K : PySem.W.Frag) : Sp := fun vs H Q _ => ∃ (c : Addr) (v r : V) (d : PyData) (b : Bool) (s : Str × List Int) (ns : List Str) (ss : List (Str × List Int)) (as : List Arm), vs = [.ref c, v] ∧ OkP ns ss as ∧ SqT K H c [.str "endless", .str (textS ns ss as), .str s.1, r] ∧ Dp K H r (fD s.2) ∧ s.1 ∈ placesS ss as ∧ s.2.length = ns.length ∧ Dp K H v d ∧ CertD as s d b ∧ ∀ H', Same H H' → Q (.bl b) H'
abbrev nAc : List Str := ["claim", "certificate", "program", "check"]
theorem scAc : FnScope nAc ["claim", "certificate"] (defScope sAc) := ⟨rfl, rfl, rfl, by decide +kernel, rfl, by decide +kernel, by decide +kernel⟩
theorem ok_ac {fCe fIni fStr mcp fRd DD : Addr} {mc : Value} {dCe dIni dStr dRd : FuncData} {es : Array DictEntry} {n : Nat} (F : FnP K "accepts" sAc f fd) (T : Mo mg) (X : Txt K mg C) (D : Defs K mg fI2 fN fF2 fS fU fCN fCS fCB fY2 fB2 fP fX2 fW2 fA fO dI2 dN dF2 dS dU dCN dCS dCB dY2 dB2 dP dX2 dW2 dA dO) (M : Mkr K C fIni fStr dIni dStr) (Z : Rdr K C mcp fRd mc dRd)
    (KD : KDict K w DD es n) (gD : mg "CHECKS" = some (.ref DD)) (eD : PySem.W.nsIn K DD "endless" = some (some (.ref fCe))) (FCe : FnP K "_check_endless" sCe fCe dCe) (GCe : FnOk P w K mg base CX0 5 fCe dCe ["program", "told", "certificate"] (spCe K C)) : FnOk P w K mg base CX0 10 f fd ["claim", "certificate"] (spAc K) := by
  have GR : FnOk P w K mg base CX0 9 fRd dRd ["cls", "text"] (spRd K C) := ok_rd Z.f T X D M
  have bR : Binds K dRd ["cls", "text"] [] := Z.f.bindsN fun _ _ _ _ _ _ us hl => match us, hl with | [_, _], _ => rfl
  have bCe : Binds K dCe ["program", "told", "certificate"] [] := FCe.bindsN fun _ _ _ _ _ _ us hl => match us, hl with | [_, _, _], _ => rfl
  refine F.ok scAc (fun vs H Q E h => ?_) (fun cdv A outer s H vs Q E hr h => ?_)
  · obtain ⟨c, v, r, d, b, s, ns, ss, as, rfl, _⟩ := h
    rfl
  · obtain ⟨c, v, r, d, b, st, ns, ss, as, rfl, ok, hc, dr, hpl, hl, hv, hC, k⟩ := h
    have hr5 := hr.mono (show 5 ≤ 9 by decide)
    refine ⟨_, PSs.nox <| pss_cons (ps_if (PW.pt (pw_or (pt_not (pt_val (pe_callB (call_isD (T := "tuple")) (by rfl) T.isi boot_isinstance (pa_cons (pv 0) (pa_cons (pe_bltn (v := .ty "tuple") (by rfl) T.tuple (by decide +kernel) rfl) pa_nil))))) (pw_or (pt_cmpR op_lt (pe_callB call_len (by rfl) T.len PySem.boot_len (pa_cons (pv 0) pa_nil)) pe_int (nomark _))
          (pw_or (pt_not (pt_val (pe_callB (call_isD (T := "str")) (by rfl) T.isi boot_isinstance (pa_cons (pe_ix (r := rIxT K) ix_tup (pv 0) pe_int (fun _ _ => rfl)) (pa_cons (pe_bltn (v := .ty "str") (by rfl) T.str (by decide +kernel) rfl) pa_nil))))) (pw_or1 (pt_cmpR (op_notIn_kd KD) (pe_ix (r := rIxT K) ix_tup (pv 0) pe_int (fun _ _ => rfl)) (pe_glob (v := .ref DD) (by rfl) gD rfl) (by rfl))))))) (pss_one (ps_ret pe_bl)) pss_nil)
      <| pss_cons (ps_try_thru0 (pss_one (ps_set (i := 2) scAc.nd rfl (.inl rfl) (ClX.pe_cmeth (pe_glob (v := .ref C) (by rfl) X.g rfl) Z.r Z.m (GR.raw bR .nil) hr pass0 (pa_cons (pe_ix (r := rIxT K) ix_tup (pv 0) pe_int (fun _ _ => rfl)) pa_nil)))))
      <| pss_cons (ps_set (i := 3) scAc.nd rfl (.inl rfl) (pe_ix ix_kdict (pe_glob (v := .ref DD) (by rfl) gD rfl) (pe_ix (r := rIxT K) ix_tup (pv 0) pe_int (fun _ _ => rfl)) (fun _ _ => rfl)))
      <| pss_one (ps_ret (pe_callL (i := 3) (E := E0) GCe hr5 rfl (.inl rfl) FCe.kp bCe .nil pass0 (pa_cons (pv 2) (pa_cons (pe_slice (r := rSlT K) sl_tup (pv 0) (po_some pe_int) po_none) (pa_cons (pv 1) pa_nil))))), ?_⟩
    have dc : Dp K H (.ref c) (.tuple [.str "endless", .str (textS ns ss as), .str st.1, fD st.2]) := .tup hc (.cons (.str _) (.cons (.str _) (.cons (.str _) (.cons dr .nil))))
    refine ⟨_, rfl, _, _, _, rfl, .inl dc, kit_tuple _, _, rfl, iteF ?_⟩
    refine ⟨_, rfl, _, 4, rfl, .inr ⟨_, hc, rfl⟩, _, _, rfl, rfl, _, rfl, iteF ?_⟩
    refine ⟨_, rfl, c, _, 0, _, rfl, rfl, hc, atI_nat (j := 0) rfl, _, .str "endless", _, rfl, .inl (.str _), kit_str _, _, rfl, iteF ?_⟩
    refine ⟨_, rfl, c, _, 0, _, rfl, rfl, hc, atI_nat (j := 0) rfl, "endless", _, rfl, rfl, eD, _, rfl, iteF ?_⟩
    refine ⟨rfl, _, rfl, c, _, 1, _, rfl, rfl, hc, atI_nat (j := 1) rfl, ns, ss, as, rfl, ok, fun x H1 s1 g => ?_⟩
    have hc1 := Same.seqT s1 hc
    refine ⟨_, rfl, c, _, 0, _, rfl, rfl, hc1, atI_nat (j := 0) rfl, DD, "endless", .ref fCe, rfl, rfl, ⟨es, n, _, KD.at_, KD.lit, eD, rfl⟩, ?_⟩
    refine ⟨rfl, _, rfl, _, rfl, 2, rfl, c, _, rfl, hc1, (show ¬ (HT.sIx 4 0 (some 2) = 0 ∧ HT.sIx 4 4 none = 4) by decide), fun t nt => ?_⟩
    have st2 := same_new (o := .tup (cutV [.str "endless", .str (textS ns ss as), .str st.1, r] (some 2) none)) nt
    refine ⟨_, rfl, x, t, v, d, b, st, ns, ss, as, rfl, g.same st2, ok, hpl, hl, st_mk (SqT.of upd_same) (dp_same (s1.trans st2) _ dr), dp_same (s1.trans st2) _ hv, hC, fun H' s' => k H' ((s1.trans st2).trans s')⟩
end
end Pg
set_option Elab.async false
set_option linter.all false
set_option maxRecDepth 100000
set_option maxHeartbeats 8000000
namespace L2
open PySem PySem.Spec PyProof.Rows
def rNeE (K : PySem.W.Frag) : R2 := fun x y H Q => ∃ a b xs, x = .ref a ∧ y = .ref b ∧ SqL K H a xs ∧ SqL K H b [] ∧ Q (.bl (!xs.isEmpty)) H
section
variable {X : Cx}
theorem op_neE (hu : X.A.units + 64 < cLine) : OpR X (compareOp .NotEq) (rNeE X.K) := by
  intro pins s σ H x y v u Q I rx ry h
  obtain ⟨a, b, xs, rfl, rfl, ha, hb, q⟩ := h
  cases xs with
  | nil =>
    exact op_neD hu pins s σ H _ _ _ _ Q I rx ry ⟨.list [], .list [], .lst ha .nil, .lst hb .nil, by decide +kernel, by decide +kernel, q⟩
  | cons z zs =>
    cases rx
    cases ry
    obtain ⟨ia, ra, ⟨oa, na, ha1, ha2, _, ha3⟩, _⟩ := I.list ha
    obtain ⟨ib, rb, ⟨ob, nb, hb1, hb2, _, hb3⟩, _⟩ := I.list hb
    cases rb
    cases ra with
    | cons r1 r2 =>
    exact EqBoolInt.of_rcne (SeqAt.RcNeAt.lists_lengths ⟨oa, ha1, ha2, na, ha3⟩ ⟨ob, hb1, hb2, nb, hb3⟩ (by simp) (by omega)) ⟨.bl true, H, I, rfl, q⟩
end
end L2
namespace K5
open PySem PySem.Spec PyProof.Rows L2 Gd Rl
open Pg (Mo fD iteDN iteDY Arm armD armsD ArmOk Bt valS sumS fitsS turnS stW mulI ofN)
abbrev sSt : Stmt := top 92
abbrev sBa : Stmt := top 93
/-- a state as the law holds it: a list of a place and a list of numbers, or the empty list -/
def StL (K : PySem.W.Frag) (H : Hp) (v : V) : Option (Str × List Int) → Prop
  | none => ∃ a, v = .ref a ∧ SqL K H a []
  | some s => ∃ a b, v = .ref a ∧ SqL K H a [.str s.1, .ref b] ∧ SqL K H b (s.2.map V.int)
theorem stl_same {K : PySem.W.Frag} {H H' : Hp} {v : V} {o : Option (Str × List Int)} (e : Same H H') (h : StL K H v o) : StL K H' v o := by
  cases o with
  | none =>
    obtain ⟨a, rfl, h1⟩ := h
    exact ⟨a, rfl, e.seq h1⟩
  | some s =>
    obtain ⟨a, b, rfl, h1, h2⟩ := h
    exact ⟨a, b, rfl, e.seq h1, e.seq h2⟩
def stepS (a : Arm) (s : Str × List Int) : Option (Str × List Int) := if fitsS a s.1 s.2 = true then some (a.tgt, turnS a s.2) else none
def spSt (K : PySem.W.Frag) : Sp := fun vs H Q _ => ∃ (bl : Addr) (v : V) (i : Nat) (ys : List V) (as : List Arm) (a : Arm) (s : Str × List Int), vs = [.ref bl, v, .int (i : Nat)] ∧ SqL K H bl ys ∧ DpAll K H ys (as.map armD) ∧ as[i]? = some a ∧ StL K H v (some s) ∧ ArmOk s.2.length a ∧ s.2.length ≤ 900 ∧ Bt s.2 ∧ ∀ z H', Same H H' → StL K H' z (stepS a s) → Q z H'
abbrev nSt : List Str := ["_law_branches", "_law_state", "_law_index", "_law_source", "_law_target", "_law_tests", "_law_changes", "_law_spot", "_law_point", "_law_shape_here", "_law_k"]
theorem scSt : FnScope nSt ["_law_branches", "_law_state", "_law_index"] (defScope sSt) := ⟨rfl, rfl, rfl, by decide +kernel, rfl, by decide +kernel, by decide +kernel⟩
def rLenS (K : PySem.W.Frag) : List V → Hp → VK → Prop := fun xs H Q => ∃ x n, xs = [x] ∧ LenV K x H n ∧ Q (.int n) H
def retV2 : Stmt → Expr
  | .Return (some (.List (_ :: e :: _) _)) _ => e
  | _ => .Name "" ⟨0, 0, 0, 0⟩
def lcSc2 : Expr → Scope
  | .ListComp _ _ sc _ => sc
  | _ => defScope (.Pass ⟨0, 0, 0, 0⟩)
def rlSc2 (sc out : Scope) : Scope := { sc with names := sc.names.map fun (n, k) => if (k == .free && out.kind == .function && out.names.lookup n == some .cell) then (n, .cell) else (n, k) }
theorem last_m {g : List Int} {m : Nat} (l : g.length = m + 1) : atI (g.map V.int) (-1) = some (.int (g.getD m 0)) := by
  have e : g.map V.int = (g.take m).map V.int ++ [.int (g.getD m 0)] := by
    have e2 : g = g.take m ++ [g.getD m 0] := by
      rw [List.getD_eq_getElem?_getD, List.getElem?_eq_getElem (by omega)]
      show g = g.take m ++ [g[m]]
      rw [List.take_append_getElem, List.take_of_length_le (by omega)]
    rw [← List.map_singleton (f := V.int), ← List.map_append, ← e2]
  rw [e]
  exact atI_last _ _
theorem at_int {g : List Int} {j : Nat} (h : j < g.length) : (g.map V.int)[j]? = some (V.int (g.getD j 0)) := by
  rw [List.getElem?_map, List.getD_eq_getElem?_getD, List.getElem?_eq_getElem h]
  rfl
section
variable {P : Program} {w : World} {K : PySem.W.Frag} {mg : Str → Option Value} {base : Heap} {f : Addr} {fd : FuncData}
theorem ok_st (F : FnP K "_law_step" sSt f fd) (M : Mo mg) (R : Br mg) : FnOk P w K mg base CX0 1 f fd ["_law_branches", "_law_state", "_law_index"] (spSt K) := by
  refine F.ok scSt (fun vs H Q E h => ?_) (fun cdv A outer s H vs Q E hr h => ?_)
  · obtain ⟨bl, v, i, ys, as, a, s, rfl, _⟩ := h
    rfl
  · obtain ⟨bl, v, i, ys, as, a, st, rfl, hbl, has, ea, hv, ao, h9, bx, k⟩ := h
    refine ⟨_, PSs.nox <| pss_cons (ps_asg (pe_ix (r := rIxL K) ix_list (pv 0) (pv 2) (fun _ _ => rfl)) (pg_tup (by rfl) (pgs_cons (pg_name (i := 3) scSt.nd rfl (.inl rfl)) (pgs_cons (pg_name (i := 4) scSt.nd rfl (.inl rfl)) (pgs_cons (pg_name (i := 5) scSt.nd rfl (.inl rfl)) (pgs_cons (pg_name (i := 6) scSt.nd rfl (.inl rfl)) pgs_nil))))))
      <| pss_cons (ps_asg (pv 1) (pg_lst (by rfl) (pgs_cons (pg_name (i := 7) scSt.nd rfl (.inl rfl)) (pgs_cons (pg_name (i := 8) scSt.nd rfl (.inr rfl)) pgs_nil))))
      <| pss_cons (ps_for PassesOwn.never rfl (pi_tup (pv 5)) (pg_name (i := 9) scSt.nd rfl (.inr rfl))
        (pss_one (ps_if (pt_cmpR op_lt (pe_op op_add (pe_callB (cr_sum rfl) (by rfl) R.sum (by decide +kernel) (pa_cons (pe_lc (own := [("_law_k", 10)]) (g := gName 10) (tt := tYes) rfl scSt.nd (pi_range1 (by rfl) R.range (pa_cons (pe_callB call_len (by rfl) M.len PySem.boot_len (pa_cons (pv 8) pa_nil)) pa_nil)) (blkOk_by (N := nSt) (sc := defScope sSt) (by decide +kernel)) (fun _ _ _ _ _ => pg_name (i := 10) scSt.nd rfl (Or.inl rfl)) (fun _ _ _ _ _ => pts_nil)
              (fun _ _ _ _ _ => pe_op mulI (pe_ix (r := rIxT K) ix_tup (pv 9) (pv 10) (fun _ _ => rfl)) (pe_ix (r := rIxL K) ix_list (pv 8) (pv 10) (fun _ _ => rfl)))) pa_nil)) (pe_ix (r := rIxT K) ix_tup (pv 9) (pe_un un_neg pe_int) (fun _ _ => rfl))) pe_int (nomark _)) (pss_one (ps_ret (pe_lstR pa_nil))) pss_nil)))
      <| pss_cons (ps_if (pt_cmpR op_ne (pv 3) (pv 7) (nomark _)) (pss_one (ps_ret (pe_lstR pa_nil))) pss_nil)
      <| pss_one (ps_ret (pe_lstR (pa_cons (pv 4) (pa_cons (pe_lc (own := [("_law_shape_here", 9)]) (g := gName 9) (tt := tYes) rfl scSt.nd (pi_tup (pv 6)) (blkOk_by (N := nSt) (sc := defScope sSt) (by decide +kernel)) (fun _ _ _ _ _ => pg_name (i := 9) scSt.nd rfl (by first | exact Or.inl rfl | exact Or.inr rfl)) (fun _ _ _ _ _ => pts_nil)
          (fun _ _ _ _ _ => pe_op op_add (pe_callB (r := rSum K) (cr_sum rfl) (by rfl) R.sum (by decide +kernel) (pa_cons (pe_lc (own := [("_law_k", 10)]) (g := gName 10) (tt := tYes) rfl scSt.nd (pi_range1 (by rfl) R.range (pa_cons (pe_callB (r := rLenS K) call_len (by rfl) M.len PySem.boot_len (pa_cons (pv 8) pa_nil)) pa_nil)) (blkOk_by (N := nSt) (sc := rlSc2 (lcSc2 (retV2 ((defBody sSt).getD 4 (.Pass ⟨0, 0, 0, 0⟩)))) (defScope sSt)) (by decide +kernel)) (fun _ _ _ _ _ => pg_name (i := 10) scSt.nd rfl (Or.inl rfl)) (fun _ _ _ _ _ => pts_nil)
              (fun _ _ _ _ _ => pe_op mulI (pe_ix (r := rIxT K) ix_tup (pv 9) (pv 10) (fun _ _ => rfl)) (pe_ix (r := rIxL K) ix_list (pv 8) (pv 10) (fun _ _ => rfl)))) pa_nil)) (pe_ix (r := rIxT K) ix_tup (pv 9) (pe_un un_neg pe_int) (fun _ _ => rfl)))) pa_nil)))), ?_⟩
    have ly := dp_len has
    rw [List.length_map] at ly
    have hi : i < as.length := (List.getElem?_eq_some_iff.mp ea).1
    have ey : ys[i]? = some ys[i] := List.getElem?_eq_getElem (by omega)
    obtain ⟨a', ea', hx⟩ := Pg.map_at has ey
    rw [ea] at ea'
    cases ea'
    obtain ⟨p, t, c, ex, hp, ht, hc⟩ := Pg.arm_at hx
    obtain ⟨d, ts, rfl, hd, hds⟩ := Pg.rp_tup (.inl ht)
    obtain ⟨e, cs, rfl, he', hqs⟩ := Pg.rp_tup (.inl hc)
    have lt := dp_len hds
    have lc := dp_len hqs
    rw [List.length_map] at lt lc
    obtain ⟨va, vb, rfl, hva, hvb⟩ := hv
    have t3 := ao.t3
    generalize hxs : st.2 = xs at *
    have one : ∀ {H1 : Hp} (g : List Int) (q : Addr), Same H H1 → SqT K H1 q (g.map V.int) → g.length = xs.length + 1 → Bt g → ∀ D, H1 D = none → ∀ (Qd : Hp → Prop), (∀ H2, H2 D = some (.lst (((List.range xs.length).map fun k => g.getD k 0 * xs.getD k 0).map V.int)) → Same H1 H2 → Qd H2) → True := fun _ _ _ _ _ _ _ _ _ _ => trivial
    clear one
    refine ⟨_, rfl, _, rfl, bl, _, _, _, rfl, rfl, hbl, atI_nat ey, ?_⟩
    rw [ex]
    refine ⟨p, _, rfl, hp, rfl, _, _, rfl, _, _, rfl, _, _, rfl, _, _, rfl, rfl, ?_⟩
    refine ⟨_, rfl, va, _, rfl, hva, rfl, _, _, rfl, _, _, rfl, rfl, ?_⟩
    refine ⟨_, rfl, d, rfl, ⟨_, hd⟩, for_tup (Pv := fun j σ H' => ∃ (x9 : Option V), σ = [some (.ref bl), some (.ref va), some (.int (i : Nat)), some (.str a.src), some (.str a.tgt), some (.ref d), some (.ref e), some (.str st.1), some (.ref vb), x9, none] ∧ Same H H' ∧ ∀ t ∈ a.tests.take j, 0 ≤ valS t xs) ⟨none, rfl, Same.refl H, fun t h => by rw [List.take_zero] at h; cases h⟩ (fun j σ H' _ ⟨_, _, s, _⟩ => Same.seqT s hd) ?_ ?_⟩
    · rintro j x σ H1 ex2 ⟨x9, rfl, s1, hall⟩
      obtain ⟨g, eg, hg⟩ := Pg.map_at hds ex2
      obtain ⟨gl, gb⟩ := Pg.forms_at ao.ts (List.mem_of_getElem? eg)
      obtain ⟨q, rfl, hq⟩ := Pg.fd_ints hg
      have tk : a.tests.take (j + 1) = a.tests.take j ++ [g] := by rw [List.take_add_one, eg]; rfl
      refine ⟨_, rfl, _, (xs.map V.int).length, rfl, .inl ⟨_, s1.seq hvb, rfl⟩, _, rfl, by rw [List.length_map]; omega, by rw [List.length_map]; omega, fun D hD => ?_⟩
      refine lc_range (lo := 0) (n := (((xs.map V.int).length : Nat) : Int).toNat) (fun m H' => H' D = some (.lst ((List.range m).map fun (k : Nat) => V.int (g.getD k 0 * xs.getD k 0))) ∧ Same H1 H') ⟨upd_same, same_new hD⟩ ?_ ?_
      · rintro m H2 hm ⟨h2, s2⟩
        have hm2 : m < xs.length := by rw [List.length_map] at hm; omega
        have zi : (0 : Int) + (m : Int) = (m : Int) := Int.zero_add _
        have s12 := s1.trans s2
        refine ⟨rfl, _, rfl, _, rfl, q, _, _, _, rfl, rfl, Same.seqT s12 hq, (by rw [zi]; exact atI_nat (at_int (show m < g.length by omega))), _, rfl, _, rfl, vb, _, _, _, rfl, rfl, s12.seq hvb, (by rw [zi]; exact atI_nat (at_int hm2)), _, _, rfl, rfl, IntMulOk.of_le (gb _ (Pg.getD_mem (show m < g.length by omega))) (bx _ (Pg.getD_mem hm2)) (by decide), _, h2, small1000 (by rw [List.length_map, List.length_range]; omega), ?_, upd_new s2 hD⟩
        rw [upd_same, List.range_succ, List.map_append]
        rfl
      · rintro H2 ⟨h2, s2⟩
        have s12 := s1.trans s2
        have h2' : H2 D = some (.lst (((List.range xs.length).map fun (k : Nat) => g.getD k 0 * xs.getD k 0).map V.int)) := by
          rw [h2, List.map_map, List.length_map, Int.toNat_natCast]
          rfl
        refine ⟨D, _, rfl, SqL.of h2', _, rfl, _, rfl, q, _, -1, _, rfl, rfl, Same.seqT s12 hq, last_m gl, _, _, rfl, rfl, _, _, rfl, rfl, _, rfl, ?_⟩
        refine ite2 (fun hcn => ?_) (fun hcn => ?_)
        · have hlow : valS g xs < 0 := of_decide_eq_true hcn
          refine ⟨by show 0 ≤ 1000; decide, fun L H3 n3 => k (.ref L) H3 (s12.trans n3.2.2) ?_⟩
          have hf : fitsS a st.1 xs = false := by
            unfold fitsS
            rw [Bool.and_eq_false_iff]
            refine .inr ?_
            cases e2 : a.tests.all fun t => decide (valS t xs ≥ 0) with
            | false => rfl
            | true =>
              have := of_decide_eq_true (List.all_eq_true.mp e2 g (List.mem_of_getElem? eg))
              omega
          unfold stepS
          rw [hxs, hf]
          exact ⟨L, rfl, SqL.of n3.2.1⟩
        · have hhigh : ¬ valS g xs < 0 := fun h => hcn (decide_eq_true h)
          refine ⟨_, rfl, s12, fun t ht2 => ?_⟩
          rw [tk] at ht2
          rcases List.mem_append.mp ht2 with h | h
          · exact hall t h
          · rw [List.mem_singleton.mp h]
            omega
    · rintro σ H1 ⟨x9, rfl, s1, hall⟩
      rw [lt, List.take_length] at hall
      have hal : (a.tests.all fun t => decide (valS t xs ≥ 0)) = true := List.all_eq_true.mpr fun t ht2 => decide_eq_true (hall t ht2)
      refine ⟨_, rfl, _, rfl, rfl, _, rfl, ?_⟩
      by_cases hsrc : V.str a.src = V.str st.1
      · rw [decide_eq_true hsrc]
        refine iteF ?_
        have hf : fitsS a st.1 xs = true := by
          unfold fitsS
          rw [decide_eq_true hsrc, hal]
          rfl
        refine ⟨_, rfl, _, rfl, e, rfl, ⟨_, Same.seqT s1 he'⟩, fun D hD => ?_⟩
        refine lc_tup (K := K) (a := e) (xs := cs) (fun j H' => H' D = some (.lst (((a.turns.take j).map fun t => valS t xs).map V.int)) ∧ Same H1 H') ⟨upd_same, same_new hD⟩ (fun j H' _ h => Same.seqT (s1.trans h.2) he') ?_ ?_
        · rintro j x H2 ex2 ⟨h2, s2⟩
          obtain ⟨g, eg, hg⟩ := Pg.map_at hqs ex2
          obtain ⟨gl, gb⟩ := Pg.forms_at ao.cs (List.mem_of_getElem? eg)
          obtain ⟨q, rfl, hq⟩ := Pg.fd_ints hg
          have s02 := s1.trans s2
          refine ⟨rfl, _, rfl, _, (xs.map V.int).length, rfl, .inl ⟨_, s02.seq hvb, rfl⟩, _, rfl, by rw [List.length_map]; omega, by rw [List.length_map]; omega, fun D2 hD2 => ?_⟩
          refine lc_range (lo := 0) (n := (((xs.map V.int).length : Nat) : Int).toNat) (fun m H' => H' D2 = some (.lst ((List.range m).map fun (k : Nat) => V.int (g.getD k 0 * xs.getD k 0))) ∧ Same H2 H') ⟨upd_same, same_new hD2⟩ ?_ ?_
          · rintro m H3 hm ⟨h3, s3⟩
            have hm2 : m < xs.length := by rw [List.length_map] at hm; omega
            have zi : (0 : Int) + (m : Int) = (m : Int) := Int.zero_add _
            have s03 := s02.trans s3
            refine ⟨rfl, _, rfl, _, rfl, q, _, _, _, rfl, rfl, Same.seqT s03 hq, (by rw [zi]; exact atI_nat (at_int (show m < g.length by omega))), _, rfl, _, rfl, vb, _, _, _, rfl, rfl, s03.seq hvb, (by rw [zi]; exact atI_nat (at_int hm2)), _, _, rfl, rfl, IntMulOk.of_le (gb _ (Pg.getD_mem (show m < g.length by omega))) (bx _ (Pg.getD_mem hm2)) (by decide), _, h3, small1000 (by rw [List.length_map, List.length_range]; omega), ?_, upd_new s3 hD2⟩
            rw [upd_same, List.range_succ, List.map_append]
            rfl
          · rintro H3 ⟨h3, s3⟩
            have h3' : H3 D2 = some (.lst (((List.range xs.length).map fun (k : Nat) => g.getD k 0 * xs.getD k 0).map V.int)) := by
              rw [h3, List.map_map, List.length_map, Int.toNat_natCast]
              rfl
            have cm := ao.cm
            have hj : j < a.turns.length := (List.getElem?_eq_some_iff.mp eg).1
            refine ⟨D2, _, rfl, SqL.of h3', _, rfl, _, rfl, q, _, -1, _, rfl, rfl, Same.seqT (s02.trans s3) hq, last_m gl, _, _, rfl, rfl, _, s3 _ _ h2, small1000 (by rw [List.length_map, List.length_map, List.length_take]; omega), ?_, upd_new (s2.trans s3) hD⟩
            rw [upd_same, List.take_add_one, eg, List.map_append, List.map_append]
            rfl
        · rintro H2 ⟨h2, s2⟩
          rw [lc, List.take_length] at h2
          refine ⟨by show 2 ≤ 1000; decide, fun L H3 n3 => k (.ref L) H3 ((s1.trans s2).trans n3.2.2) ?_⟩
          unfold stepS
          rw [hxs, hf, if_pos rfl]
          exact ⟨L, D, rfl, SqL.of n3.2.1, SqL.of (n3.2.2 _ _ h2)⟩
      · rw [decide_eq_false hsrc]
        refine iteT ⟨by show 0 ≤ 1000; decide, fun L H3 n3 => k (.ref L) H3 (s1.trans n3.2.2) ?_⟩
        have hf : fitsS a st.1 xs = false := by
          unfold fitsS
          rw [decide_eq_false hsrc, Bool.false_and]
        unfold stepS
        rw [hxs, hf]
        exact ⟨L, rfl, SqL.of n3.2.1⟩
end
end K5
set_option Elab.async false
set_option linter.all false
set_option maxRecDepth 100000
set_option maxHeartbeats 8000000
namespace K5
open PySem PySem.Spec PyProof.Rows L2 Gd Rl
open Pg (Mo fD iteDN iteDY Arm armD armsD ArmOk Bt valS sumS fitsS turnS stW mulI ofN)
def spBa (K : PySem.W.Frag) : Sp := fun vs H Q _ => ∃ (bl q : Addr) (v : V) (n : Nat) (ys : List V) (as : List Arm) (o : Option (Str × List Int)) (ws : List Nat), vs = [.ref bl, v, .ref q] ∧ SqL K H bl ys ∧ DpAll K H ys (as.map armD) ∧ (∀ a ∈ as, ArmOk n a) ∧ n ≤ 900 ∧ StL K H v o ∧ SqT K H q ((ofN ws).map V.int) ∧ (∀ i ∈ ws, i < as.length) ∧ ws.length ≤ 900 ∧
  (∀ s, o = some s → s.2.length = n ∧ ∀ m t, m ≤ ws.length → stW as ws s.1 s.2 m = some t → Bt t.2) ∧ ∀ z H', Same H H' → StL K H' z (o.bind fun s => stW as ws s.1 s.2 ws.length) → Q z H'
abbrev nBa : List Str := ["_law_branches", "_law_state", "_law_row_here", "_law_index"]
theorem scBa : FnScope nBa ["_law_branches", "_law_state", "_law_row_here"] (defScope sBa) := ⟨rfl, rfl, rfl, by decide +kernel, rfl, by decide +kernel, by decide +kernel⟩
section
variable {P : Program} {w : World} {K : PySem.W.Frag} {mg : Str → Option Value} {base : Heap} {f : Addr} {fd : FuncData}
theorem ok_ba {fS : Addr} {dS : FuncData} (F : FnP K "_law_behind_all" sBa f fd) (M : Mo mg) (R : Br mg) (FS : FnP K "_law_step" sSt fS dS) (gS : mg "_law_step" = some (.ref fS)) : FnOk P w K mg base CX0 2 f fd ["_law_branches", "_law_state", "_law_row_here"] (spBa K) := by
  have GS : FnOk P w K mg base CX0 1 fS dS ["_law_branches", "_law_state", "_law_index"] (spSt K) := ok_st FS M R
  have bS : Binds K dS ["_law_branches", "_law_state", "_law_index"] [] := FS.bindsN fun _ _ _ _ _ _ us hl => match us, hl with | [_, _, _], _ => rfl
  refine F.ok scBa (fun vs H Q E h => ?_) (fun cdv A outer s H vs Q E hr h => ?_)
  · obtain ⟨bl, q, v, n, ys, as, o, ws, rfl, _⟩ := h
    rfl
  · obtain ⟨bl, q, v, n, ys, as, o, ws, rfl, hbl, has, ha, n9, hv, hq, hw, lw, hb, k⟩ := h
    refine ⟨_, PSs.nox <| pss_cons (ps_for PassesOwn.never rfl (pi_tup (pv 2)) (pg_name (i := 3) scBa.nd rfl (.inl rfl))
        (pss_one (ps_set (i := 1) scBa.nd rfl (.inl rfl) (pe_ifExp (pt_cmpR (op_neE hr.units) (pv 1) (pe_lstR pa_nil) (nomark _)) (pe_call GS hr (by rfl) gS FS.kp bS .nil pass0 (pa_cons (pv 0) (pa_cons (pv 1) (pa_cons (pv 3) pa_nil)))) (pe_lstR pa_nil)))))
      <| pss_one (ps_ret (pv 1)), ?_⟩
    have lo : ((ofN ws).map V.int).length = ws.length := by unfold ofN; rw [List.length_map, List.length_map]
    refine ⟨_, rfl, q, rfl, ⟨_, hq⟩, for_tup (Pv := fun j σ H' => ∃ (x3 : Option V) (z : V), σ = [some (.ref bl), some z, some (.ref q), x3] ∧ Same H H' ∧ StL K H' z (o.bind fun s => stW as ws s.1 s.2 j) ∧ ∀ t, (o.bind fun s => stW as ws s.1 s.2 j) = some t → t.2.length = n) ⟨none, v, rfl, Same.refl H, ?_, ?_⟩ (fun j σ H' _ ⟨_, _, _, s, _⟩ => Same.seqT s hq) ?_ ?_⟩
    · cases o with
      | none => exact hv
      | some s => exact hv
    · intro t ht
      cases o with
      | none => cases ht
      | some s =>
        have e : some (s.1, s.2) = some t := ht
        cases e
        exact (hb s rfl).1
    · rintro j x σ H1 ex ⟨x3, z, rfl, s1, hz, hlen⟩
      have hj : j < ws.length := by rw [← lo]; exact (List.getElem?_eq_some_iff.mp ex).1
      have ew : ws[j]? = some ws[j] := List.getElem?_eq_getElem hj
      have exx : x = .int (ws[j] : Nat) := by
        unfold ofN at ex
        rw [List.map_map, List.getElem?_map, ew] at ex
        exact (Option.some.inj ex).symm
      subst exx
      have hn := hw ws[j] (List.getElem_mem hj)
      have ea : as[ws[j]]? = some as[ws[j]] := List.getElem?_eq_getElem hn
      have egd : ws.getD j 0 = ws[j] := by
        rw [List.getD_eq_getElem?_getD, ew]
        rfl
      refine ⟨_, rfl, by show 0 ≤ 1000; decide, fun L H2 n2 => ?_⟩
      have s2 := n2.2.2
      cases eo : (o.bind fun s => stW as ws s.1 s.2 j) with
      | none =>
        rw [eo] at hz
        obtain ⟨va, rfl, hva⟩ := hz
        refine ⟨va, L, [], rfl, rfl, s2.seq hva, SqL.of n2.2.1, _, rfl, ?_⟩
        refine iteF ⟨by show 0 ≤ 1000; decide, fun L3 H3 n3 => ?_⟩
        have e1 : (o.bind fun s => stW as ws s.1 s.2 (j + 1)) = none := by
          cases o with
          | none => rfl
          | some s =>
            have e2 : stW as ws s.1 s.2 j = none := eo
            show stW as ws s.1 s.2 (j + 1) = none
            rw [stW, e2]
            rfl
        refine ⟨_, _, rfl, (s1.trans s2).trans n3.2.2, ?_, fun t ht => ?_⟩
        · rw [e1]
          exact ⟨L3, rfl, SqL.of n3.2.1⟩
        · rw [e1] at ht
          cases ht
      | some t =>
        rw [eo] at hz
        obtain ⟨va, vb, rfl, hva, hvb⟩ := hz
        refine ⟨va, L, _, rfl, rfl, s2.seq hva, SqL.of n2.2.1, _, rfl, ?_⟩
        refine iteT ?_
        have lt := hlen t eo
        have ao := ha as[ws[j]] (List.getElem_mem hn)
        rw [← lt] at ao
        obtain ⟨s, rfl⟩ : ∃ s, o = some s := by
          cases o with
          | none => cases eo
          | some s => exact ⟨s, rfl⟩
        have es : stW as ws s.1 s.2 j = some t := eo
        have bt := (hb s rfl).2 j t (by omega) es
        have e1 : stW as ws s.1 s.2 (j + 1) = stepS as[ws[j]] t := by
          rw [stW, es]
          show (as[ws.getD j 0]?).bind _ = _
          rw [egd, ea]
          rfl
        have s12 := s1.trans s2
        refine ⟨_, rfl, _, rfl, _, rfl, bl, .ref va, ws[j], ys, as, as[ws[j]], t, rfl, s12.seq hbl, dp_sameAll s12 _ has, ea, ⟨va, vb, rfl, s2.seq hva, s2.seq hvb⟩, ao, by omega, bt, fun z H3 s3 hz => ?_⟩
        refine ⟨_, _, rfl, s12.trans s3, ?_, fun u hu => ?_⟩
        · show StL K H3 z (stW as ws s.1 s.2 (j + 1))
          rw [e1]
          exact hz
        · have hu2 : stW as ws s.1 s.2 (j + 1) = some u := hu
          rw [e1] at hu2
          unfold stepS at hu2
          split at hu2
          · cases hu2
            show (turnS as[ws[j]] t.2).length = n
            unfold Pg.turnS
            rw [List.length_map, ao.cm, lt]
          · cases hu2
    · rintro σ H1 ⟨x3, z, rfl, s1, hz, _⟩
      rw [lo] at hz
      exact ⟨_, rfl, k z H1 s1 hz⟩
end
end K5
set_option Elab.async false
set_option linter.all false
set_option maxRecDepth 100000
set_option maxHeartbeats 8000000
namespace K5
open PySem PySem.Spec PyProof.Rows L2 Gd Rl
open Pg (Mo fD iteDN iteDY Arm armD armsD ArmOk Bt valS sumS fitsS turnS stW mulI ofN endB plD OkP OkN OkS OkA placesS firsts standS nameS)
/-! ### the law's program -/
def arms5 (tf sy tu : List (List Int)) (s1 s2 : List Int) : List Arm := [⟨"a", "b", [], tf⟩, ⟨"b", "a", [], tf⟩, ⟨"a", "a", [s1], sy⟩, ⟨"b", "a", [], sy⟩, ⟨"a", "a", [s2], tu⟩]
theorem nmA : nameS "a" = true := by decide +kernel
theorem nmB : nameS "b" = true := by decide +kernel
theorem fms_of {n : Nat} {ts : List (List Int)} (h : Fms n ts) : Pg.formsB n (.tuple (ts.map fD)) = true := forms_of fun g hg => sml_ok (h g hg).1 (h g hg).2
structure Parts (n : Nat) (tf sy tu : List (List Int)) (s1 s2 : List Int) : Prop where
  ftf : Fms n tf
  ltf : tf.length = n
  fsy : Fms n sy
  lsy : sy.length = n
  ftu : Fms n tu
  ltu : tu.length = n
  l1 : s1.length = n + 1
  m1 : Sml s1
  l2 : s2.length = n + 1
  m2 : Sml s2
theorem fms_nil (n : Nat) : Fms n [] := fun t h => by cases h
theorem fms_one {n : Nat} {g : List Int} (l : g.length = n + 1) (s : Sml g) : Fms n [g] := fun t ht => by
  rw [List.mem_singleton.mp ht]
  exact ⟨l, s⟩
theorem arms_ok {n : Nat} {tf sy tu : List (List Int)} {s1 s2 : List Int} (h : Parts n tf sy tu s1 s2) : ∀ a ∈ arms5 tf sy tu s1 s2, ArmOk n a ∧ Fms n a.tests ∧ Fms n a.turns := fun a ha => by
  unfold arms5 at ha
  simp only [List.mem_cons, List.not_mem_nil, or_false] at ha
  rcases ha with rfl | rfl | rfl | rfl | rfl
  · exact ⟨⟨nmA, nmB, fms_of (fms_nil n), by show 0 ≤ 3; decide, fms_of h.ftf, h.ltf⟩, fms_nil n, h.ftf⟩
  · exact ⟨⟨nmB, nmA, fms_of (fms_nil n), by show 0 ≤ 3; decide, fms_of h.ftf, h.ltf⟩, fms_nil n, h.ftf⟩
  · exact ⟨⟨nmA, nmA, fms_of (fms_one h.l1 h.m1), by show 1 ≤ 3; decide, fms_of h.fsy, h.lsy⟩, fms_one h.l1 h.m1, h.fsy⟩
  · exact ⟨⟨nmB, nmA, fms_of (fms_nil n), by show 0 ≤ 3; decide, fms_of h.fsy, h.lsy⟩, fms_nil n, h.fsy⟩
  · exact ⟨⟨nmA, nmA, fms_of (fms_one h.l2 h.m2), by show 1 ≤ 3; decide, fms_of h.ftu, h.ltu⟩, fms_one h.l2 h.m2, h.ftu⟩
def nms (n : Nat) : List Str := (["x", "y"] : List Str).take n
theorem nms_ok {n : Nat} (n1 : 1 ≤ n) (n2 : n ≤ 2) : OkN (nms n) ∧ (nms n).length = n := by
  rcases (show n = 1 ∨ n = 2 by omega) with rfl | rfl
  · exact ⟨⟨by decide, by decide, by decide +kernel, by decide +kernel⟩, rfl⟩
  · exact ⟨⟨by decide, by decide, by decide +kernel, by decide +kernel⟩, rfl⟩
theorem places_is (tf sy tu : List (List Int)) (s1 s2 : List Int) : placesS [] (arms5 tf sy tu s1 s2) = (["a", "b"] : List Str) := by
  show firsts (["a", "b", "b", "a", "a", "a", "b", "a", "a", "a"] : List Str) = (["a", "b"] : List Str)
  decide +kernel
theorem prog_ok {n : Nat} {tf sy tu : List (List Int)} {s1 s2 : List Int} (n1 : 1 ≤ n) (n2 : n ≤ 2) (h : Parts n tf sy tu s1 s2) : OkP (nms n) [] (arms5 tf sy tu s1 s2) := by
  obtain ⟨h1, h2⟩ := nms_ok n1 n2
  refine ⟨h1, ⟨by show 0 ≤ 3; decide, fun s hs => by cases hs⟩, ⟨by show 1 ≤ 5; decide, by show 5 ≤ 5; decide, fun a ha => by rw [h2]; exact (arms_ok h a ha).1, ?_⟩⟩
  rw [places_is]
  decide
/-! ### how great the numbers grow -/
def Bn (b : Nat) (xs : List Int) : Prop := ∀ z ∈ xs, z.natAbs < 2 ^ b
theorem bn_bt {b : Nat} {xs : List Int} (h : Bn b xs) (hb : b ≤ 1000000) : Bt xs := fun z hz => Nat.le_trans (intBits_le_iff.mpr (h z hz)) hb
theorem bn_getD {b : Nat} {xs : List Int} (h : Bn b xs) (i : Nat) : (xs.getD i 0).natAbs < 2 ^ b := by
  rw [List.getD_eq_getElem?_getD]
  cases e : xs[i]? with
  | none => exact Nat.pow_pos (by decide)
  | some z => exact h z (List.mem_of_getElem? e)
theorem sml_getD {g : List Int} (h : Sml g) (i : Nat) : (g.getD i 0).natAbs ≤ 110 := by
  rw [List.getD_eq_getElem?_getD]
  cases e : g[i]? with
  | none => decide
  | some z => exact h z (List.mem_of_getElem? e)
theorem val_bn {g xs : List Int} {b : Nat} (hg : Sml g) (hx : Bn b xs) (l : xs.length ≤ 3) : (valS g xs).natAbs < 2 ^ (b + 9) := by
  have sum : ∀ k, k ≤ 3 → (sumS g xs k).natAbs ≤ k * (110 * 2 ^ b) := by
    intro k
    induction k with
    | zero => intro _; exact Nat.zero_le _
    | succ k ih =>
      intro hk
      have i1 := ih (by omega)
      unfold sumS at i1 ⊢
      rw [List.range_succ, List.map_append, List.map_singleton, Pg.sum_snoc]
      have m : (g.getD k 0 * xs.getD k 0).natAbs ≤ 110 * 2 ^ b := by
        rw [Int.natAbs_mul]
        exact Nat.mul_le_mul (sml_getD hg k) (Nat.le_of_lt (bn_getD hx k))
      have e : (k + 1) * (110 * 2 ^ b) = k * (110 * 2 ^ b) + 110 * 2 ^ b := Nat.succ_mul ..
      rw [e]
      omega
  have h1 := sum xs.length l
  have h2 := sml_getD hg xs.length
  have h3 : xs.length * (110 * 2 ^ b) ≤ 3 * (110 * 2 ^ b) := Nat.mul_le_mul_right _ l
  have p : 2 ^ (b + 9) = 512 * 2 ^ b := by rw [Nat.pow_add, Nat.mul_comm]
  have p1 : 1 ≤ 2 ^ b := Nat.pow_pos (by decide)
  unfold Pg.valS
  rw [p]
  omega
theorem st_bn {as : List Arm} {n b : Nat} {ws : List Nat} {pl : Str} {xs : List Int} (ha : ∀ a ∈ as, ArmOk n a ∧ Fms n a.tests ∧ Fms n a.turns) (n3 : n ≤ 3) (lx : xs.length = n) (hx : Bn b xs) : ∀ j t, stW as ws pl xs j = some t → Bn (b + 9 * j) t.2 ∧ t.2.length = n
  | 0, t, h => by
    have e : some (pl, xs) = some t := h
    cases e
    exact ⟨hx, lx⟩
  | j + 1, t, h => by
    rw [stW] at h
    cases e : stW as ws pl xs j with
    | none =>
      rw [e] at h
      cases h
    | some s =>
      rw [e] at h
      obtain ⟨i1, i2⟩ := st_bn ha n3 lx hx j s e
      have h2 : ((as[ws.getD j 0]?).bind fun a => if fitsS a s.1 s.2 = true then some (a.tgt, turnS a s.2) else none) = some t := h
      cases ea : as[ws.getD j 0]? with
      | none =>
        rw [ea] at h2
        cases h2
      | some a =>
        rw [ea] at h2
        have h3 : (if fitsS a s.1 s.2 = true then some (a.tgt, turnS a s.2) else none) = some t := h2
        obtain ⟨ao, _, f2⟩ := ha a (List.mem_of_getElem? ea)
        split at h3
        · cases h3
          refine ⟨fun z hz => ?_, ?_⟩
          · have hz2 : z ∈ a.turns.map fun t => valS t s.2 := hz
            obtain ⟨g, hg, rfl⟩ := List.mem_map.mp hz2
            have := val_bn (f2 g hg).2 i1 (by omega)
            rw [show b + 9 * (j + 1) = b + 9 * j + 9 by omega]
            exact this
          · show (a.turns.map fun t => valS t s.2).length = n
            rw [List.length_map, ao.cm]
        · cases h3
/-! ### what is due -/
def dS : Option (Str × List Int) → PyData
  | none => .list []
  | some s => .list [.str s.1, .list (s.2.map PyData.int)]
def dueB (as : List Arm) (s : Str × List Int) (ws rs : List Nat) : Bool := !rs.isEmpty && ((stW as ws s.1 s.2 ws.length).isSome && PyData.eqv (dS ((stW as ws s.1 s.2 ws.length).bind fun t => stW as rs t.1 t.2 rs.length)) (dS (stW as ws s.1 s.2 ws.length)))
theorem due_is (as : List Arm) (s : Str × List Int) (ws rs : List Nat) : dueB as s ws rs = endB as s ws rs := by
  unfold dueB Pg.endB
  cases e : stW as ws s.1 s.2 ws.length with
  | none => simp
  | some t =>
    show (!rs.isEmpty && (true && PyData.eqv (dS (stW as rs t.1 t.2 rs.length)) (dS (some t)))) = (!rs.isEmpty && _)
    cases e2 : stW as rs t.1 t.2 rs.length with
    | none =>
      have : PyData.eqv (dS none) (dS (some t)) = false := by
        simp [dS, PyData.eqv, PyData.eqvAll]
      rw [this]
      simp
    | some u =>
      have : PyData.eqv (dS (some u)) (dS (some t)) = PyData.eqv (plD u) (plD t) := by
        show PyData.eqv (.list [.str u.1, .list (u.2.map PyData.int)]) (.list [.str t.1, .list (t.2.map PyData.int)]) = PyData.eqv (.tuple [.str u.1, .tuple (u.2.map PyData.int)]) (.tuple [.str t.1, .tuple (t.2.map PyData.int)])
        simp [PyData.eqv, PyData.eqvAll]
      rw [this, Bool.true_and]
theorem plain_dS (o : Option (Str × List Int)) : PyData.plain (dS o) = true := by
  cases o with
  | none => simp [dS, PyData.plain, PyData.plainAll]
  | some s =>
    have := Pg.plain_ints s.2
    simp [dS, PyData.plain, PyData.plainAll, this]
theorem depth_dS (o : Option (Str × List Int)) : PyData.depth (dS o) ≤ 64 := by
  cases o with
  | none =>
    simp [dS, PyData.depth, PyData.depthAll]
  | some s =>
    have := Pg.depth_ints s.2
    simp only [dS, PyData.depth, PyData.depthAll]
    omega
theorem dp_listI {K : PySem.W.Frag} {H : Hp} : ∀ xs : List Int, DpAll K H (xs.map V.int) (xs.map PyData.int)
  | [] => .nil
  | x :: xs => .cons (.int x) (dp_listI xs)
theorem stl_dp {K : PySem.W.Frag} {H : Hp} {v : V} {o : Option (Str × List Int)} (h : StL K H v o) : Dp K H v (dS o) := by
  cases o with
  | none =>
    obtain ⟨a, rfl, h1⟩ := h
    exact .lst h1 .nil
  | some s =>
    obtain ⟨a, b, rfl, h1, h2⟩ := h
    exact .lst h1 (.cons (.str _) (.cons (.lst h2 (dp_listI s.2)) .nil))
end K5
set_option Elab.async false
set_option linter.all false
set_option maxRecDepth 100000
set_option maxHeartbeats 8000000
namespace Sz
open PySem PySem.Spec PyProof.Rows L2 TL Nu
/-! how long shown data is at most -/
theorem len_ap (x y : Str) : (x ++ y).length = x.length + y.length := by
  rw [len_tl, tl_append, List.length_append, ← len_tl, ← len_tl]
theorem sums_le {l : List Nat} {b : Nat} (h : ∀ x ∈ l, x ≤ b) : l.sum ≤ l.length * b := by
  induction l with
  | nil => simp
  | cons a l ih =>
    rw [List.sum_cons, List.length_cons, Nat.succ_mul]
    have h1 := h a (List.mem_cons_self ..)
    have h2 := ih fun x hx => h x (List.mem_cons_of_mem _ hx)
    omega
theorem sep_le (k : Nat) : ((if k > 0 then ", " else "" : String) : Str).length ≤ 2 := by
  split <;> decide +kernel
theorem from_le : ∀ (ts : List Str) (k : Nat) (acc : Str), (textFrom k acc ts).length ≤ acc.length + (ts.map (·.length)).sum + 2 * ts.length
  | [], k, acc => by
    show acc.length ≤ _
    omega
  | t :: r, k, acc => by
    have ih := from_le r (k + 1) (acc ++ (if k > 0 then ", " else "" : String) ++ t)
    have e : textFrom k acc (t :: r) = textFrom (k + 1) (acc ++ (if k > 0 then ", " else "" : String) ++ t) r := rfl
    rw [e]
    rw [len_ap, len_ap] at ih
    have := sep_le k
    rw [List.map_cons, List.sum_cons, List.length_cons]
    omega
theorem list_le (ts : List Str) : (listText ts).length ≤ (ts.map (·.length)).sum + 2 * ts.length + 2 := by
  unfold listText
  rw [len_ap]
  have := from_le ts 0 "["
  have e1 : ("[" : Str).length = 1 := by decide +kernel
  have e2 : ("]" : Str).length = 1 := by decide +kernel
  rw [e1] at this
  rw [e2]
  omega
theorem join_le (y : Str) : ∀ ps : List Str, (Str.join y ps).length ≤ (ps.map (·.length)).sum + ps.length * y.length
  | [] => Nat.zero_le _
  | [p] => by
    show p.length ≤ _
    simp
  | p :: q :: r => by
    have ih := join_le y (q :: r)
    have e : Str.join y (p :: q :: r) = p ++ y ++ Str.join y (q :: r) := rfl
    rw [e, len_ap, len_ap, List.map_cons, List.sum_cons, List.length_cons, Nat.succ_mul]
    omega
theorem tup_le (ts : List Str) : (tupleText ts).length ≤ (ts.map (·.length)).sum + 2 * ts.length + 3 := by
  unfold tupleText
  rw [len_ap, len_ap]
  have := join_le ", " ts
  have e1 : ("(" : Str).length = 1 := by decide +kernel
  have e2 : (", " : Str).length = 2 := by decide +kernel
  have e3 : ((if ts.length == 1 then ",)" else ")" : String) : Str).length ≤ 2 := by
    split <;> decide +kernel
  rw [e2] at this
  rw [e1]
  omega
/-- shown in at most n signs, at most k deep -/
structure Sh (d : PyData) (n k : Nat) : Prop where
  len : d.shown.length ≤ n
  sh : d.showable = true
  dp : d.depth ≤ k
theorem Sh.mono {d : PyData} {n k n2 k2 : Nat} (h : Sh d n k) (a : n ≤ n2) (b : k ≤ k2) : Sh d n2 k2 := ⟨Nat.le_trans h.len a, h.sh, Nat.le_trans h.dp b⟩
theorem all_len : ∀ ds : List PyData, (PyData.shownAll ds).length = ds.length
  | [] => by simp only [PyData.shownAll]; rfl
  | d :: ds => by
    simp only [PyData.shownAll, List.length_cons, all_len ds]
theorem all_mem : ∀ {ds : List PyData} {t : Str}, t ∈ PyData.shownAll ds → ∃ d ∈ ds, t = d.shown
  | [], t, h => by
    simp only [PyData.shownAll] at h
    cases h
  | d :: ds, t, h => by
    simp only [PyData.shownAll] at h
    rcases List.mem_cons.mp h with rfl | h
    · exact ⟨d, List.mem_cons_self .., rfl⟩
    · obtain ⟨e, he, q⟩ := all_mem h
      exact ⟨e, List.mem_cons_of_mem _ he, q⟩
theorem all_sum {ds : List PyData} {n : Nat} (h : ∀ d ∈ ds, d.shown.length ≤ n) : ((PyData.shownAll ds).map (·.length)).sum ≤ ds.length * n := by
  have q := sums_le (l := (PyData.shownAll ds).map (·.length)) (b := n) fun x hx => by
    obtain ⟨t, ht, rfl⟩ := List.mem_map.mp hx
    obtain ⟨d, hd, rfl⟩ := all_mem ht
    exact h d hd
  rw [List.length_map, all_len] at q
  exact q
theorem all_show : ∀ {ds : List PyData}, (∀ d ∈ ds, d.showable = true) → PyData.showableAll ds = true
  | [], _ => rfl
  | d :: ds, h => by
    simp only [PyData.showableAll, h d (List.mem_cons_self ..), all_show fun e he => h e (List.mem_cons_of_mem _ he)]
    rfl
theorem sh_int {i : Int} (h : -1000000 ≤ i ∧ i ≤ 1000000) : Sh (.int i) 8 1 := by
  refine ⟨?_, ?_, ?_⟩
  · simp only [PyData.shown]
    exact num_len h
  · simp only [PyData.showable]
    exact decide_eq_true (num_log h)
  · simp only [PyData.depth]
    decide
theorem sh_str {z : Str} {n : Nat} (h : ∀ c ∈ z.cps.toList, c < 16 ^ 8) (hn : z.length ≤ n) : Sh (.str z) (10 * n + 2) 1 := by
  refine ⟨?_, ?_, ?_⟩
  · simp only [PyData.shown]
    have := StrLaws.reprText_len z h
    omega
  · simp only [PyData.showable]
  · simp only [PyData.depth]
    decide
theorem sh_bool (b : Bool) : Sh (.bool b) 5 1 := by
  cases b <;> exact ⟨by decide +kernel, by simp only [PyData.showable], by simp only [PyData.depth]; decide⟩
theorem all_deep : ∀ {ds : List PyData} {k : Nat}, (∀ d ∈ ds, d.depth ≤ k) → PyData.depthAll ds ≤ k
  | [], k, _ => by
    simp only [PyData.depthAll]
    exact Nat.zero_le _
  | d :: ds, k, h => by
    have h1 := h d (List.mem_cons_self ..)
    have h2 := all_deep fun e he => h e (List.mem_cons_of_mem _ he)
    simp only [PyData.depthAll]
    omega
theorem sh_tup {ds : List PyData} {n k : Nat} (h : ∀ d ∈ ds, Sh d n k) : Sh (.tuple ds) (ds.length * (n + 2) + 3) (k + 1) := by
  refine ⟨?_, ?_, ?_⟩
  · simp only [PyData.shown]
    have h1 := tup_le (PyData.shownAll ds)
    have h2 := all_sum fun d hd => (h d hd).len
    rw [all_len] at h1
    rw [Nat.mul_add]
    omega
  · simp only [PyData.showable]
    exact all_show fun d hd => (h d hd).sh
  · have := all_deep fun d hd => (h d hd).dp
    simp only [PyData.depth]
    omega
theorem sh_lst {ds : List PyData} {n k : Nat} (h : ∀ d ∈ ds, Sh d n k) : Sh (.list ds) (ds.length * (n + 2) + 2) (k + 1) := by
  refine ⟨?_, ?_, ?_⟩
  · simp only [PyData.shown]
    have h1 := list_le (PyData.shownAll ds)
    have h2 := all_sum fun d hd => (h d hd).len
    rw [all_len] at h1
    rw [Nat.mul_add]
    omega
  · simp only [PyData.showable]
    exact all_show fun d hd => (h d hd).sh
  · have := all_deep fun d hd => (h d hd).dp
    simp only [PyData.depth]
    omega
end Sz
set_option Elab.async false
set_option linter.all false
set_option maxRecDepth 100000
set_option maxHeartbeats 8000000
namespace Ow
open PySem PySem.Spec PyProof.Rows L2
section
variable {X : Cx} {CX : CXT} {k : Nat} {f : Addr} {sp : Sp} {E : XK} {x : Str} {p pos : Pos} {tk : TA} {fd : FuncData} {ps ks : List Str} {kws : List Keyword} {gg : List Value → List Value → List Value} {gV : List V → List V → List V}
/-- x(k = v, ..), x a def of the module, no argument by position -/
def tFnK (n : Nat) (sp : Sp) (gV : List V → List V → List V) (E : XK) (tk : TA) : TE := fun σ H Q => tk σ H fun zs H2 => zs.length = n ∧ sp (gV [] zs) H2 Q E
theorem pe_callK0 (F : FnOk X.prog X.w X.K X.mg X.base CX k f fd ps sp) (hr : Room k X.A) (hg : Gl X x) (hm : X.mg x = some (.ref f)) (hk : PySem.W.keepIn X.K (.ref f) = true) (hb : KBn X.K fd ps 0 ks gg gV) (hx : Passes CX X E) (hkw : PK X kws tk)
    (hall : (backToKw pos (keywordEach kws X.env)).all (·.1.isSome) = true := by rfl) (hks : (backToKw pos (keywordEach kws X.env)).filterMap (·.1) = ks := by rfl) (hdb : (x == ("__debug__" : Str)) = false := by decide)
    (hpl : ((backTo pos (starEach [] X.env)).any (·.1) || (backToKw pos (keywordEach kws X.env)).any (·.1.isNone)) = false := by rfl) :
    PE X (.Call (.Name x p) [] kws pos) (tFnK ks.length sp gV E tk) := by
  refine ⟨fun pins s σ H Q I h => ?_⟩
  refine wpAny_Call_Name_kw (ld_glob I hg hm ?_ hdb)
  refine PySem.W.callWith_KW0 (h₀ := X.base) I.ok.mod.kin hk hall ?_ hpl
  refine thn (hkw.run pos pins s σ H _ I h) fun ws s2 ⟨zs, H2, I2, rz, l2, q2⟩ => ⟨I2.kIn, ?_⟩
  rw [hks]
  refine wpAny_call (codeAny_mono (F.run X.A X.stack s2 H2 ⟨[], ks.zip ws⟩ (gg [] ws) (gV [] zs) Q E hr I2.env0 (hb.to s2 [] ws I2.kIn rfl (rz.length.symm.trans l2)) (hb.rel .nil rz) q2) fun r s' hq => ?_)
  cases r with
  | error e => exact hx pins σ H2 s2 e s' I2 hq
  | ok fl =>
    cases fl with
    | ret u => exact I2.after hq
    | next => exact False.elim hq
    | brk => exact False.elim hq
    | cont => exact False.elim hq
end
end Ow
namespace Sz
open PySem PySem.Spec PyProof.Rows L2 TL Nu
/-! great whole numbers, shown -/
theorem num_lenB {i : Int} {k : Nat} (k0 : 0 < k) (h : i.natAbs < 10 ^ k) : (numS i).length ≤ k + 1 := by
  rw [len_tl]
  cases i with
  | ofNat n =>
    rw [tl_pos]
    exact Nat.le_trans (numL_len (n := n) (k := k) k0 h) (Nat.le_succ _)
  | negSucc n =>
    rw [tl_neg, List.length_cons]
    have := numL_len (n := n + 1) (k := k) k0 h
    omega
theorem num_logB {i : Int} (h : i.natAbs < 2 ^ 1920) : i.natAbs.log2 < 1920 := by
  by_cases h0 : i.natAbs = 0
  · rw [h0]
    exact Nat.lt_of_lt_of_le (show Nat.log2 0 < 1 by decide) (by decide)
  · exact (Nat.log2_lt h0).mpr h
theorem sh_intB {i : Int} (h : i.natAbs < 10 ^ 60) : Sh (.int i) 61 1 := by
  refine ⟨?_, ?_, ?_⟩
  · simp only [PyData.shown]
    exact num_lenB (by decide) h
  · simp only [PyData.showable]
    have l : (10 ^ 60 : Nat) < 2 ^ 200 := by decide
    exact decide_eq_true (num_logB (Nat.lt_of_lt_of_le (Nat.lt_trans h l) (Nat.pow_le_pow_right (by decide) (by decide))))
  · simp only [PyData.depth]
    decide
theorem sh_intN {i : Int} {k : Nat} (k0 : 0 < k) (k4 : k ≤ 400) (h : i.natAbs < 10 ^ k) : Sh (.int i) (k + 1) 1 := by
  refine ⟨?_, ?_, ?_⟩
  · simp only [PyData.shown]
    exact num_lenB k0 h
  · simp only [PyData.showable]
    have h3 : (10 : Nat) ^ k ≤ 16 ^ k := Nat.pow_le_pow_left (by decide) _
    have h4 : (16 : Nat) ^ k = 2 ^ (4 * k) := by
      rw [show (16 : Nat) = 2 ^ 4 from rfl, ← Nat.pow_mul]
    exact decide_eq_true (num_logB (Nat.lt_of_lt_of_le (Nat.lt_of_lt_of_le h h3) (by rw [h4]; exact Nat.pow_le_pow_right (by decide) (by omega))))
  · simp only [PyData.depth]
    decide
theorem sum_abs {l : List Int} {b : Nat} (h : ∀ z ∈ l, z.natAbs ≤ b) : l.sum.natAbs ≤ l.length * b := by
  induction l with
  | nil => exact Nat.zero_le _
  | cons a l ih =>
    rw [List.sum_cons, List.length_cons, Nat.succ_mul]
    have h1 := h a (List.mem_cons_self ..)
    have h2 := ih fun x hx => h x (List.mem_cons_of_mem _ hx)
    have h3 := Int.natAbs_add_le a l.sum
    omega
end Sz
set_option Elab.async false
set_option linter.all false
set_option maxRecDepth 100000
set_option maxHeartbeats 8000000
namespace K5
open PySem PySem.Spec PyProof.Rows L2 Gd Rl
open Pg (Mo fD iteDN iteDY Arm armD armsD ArmOk Bt stW ofN endB plD OkP placesS spTxt spAc sAc sTxt sLw CertD textS)
abbrev sRi : Stmt := top 94
abbrev nRi : List Str := ["_law_well_here", "_law_turn", "_law_size", "_law_to_and_fro", "_law_stay", "_law_branches", "_law_text_here", "_law_again", "_law_spot", "_law_point", "_law_way", "_law_ring", "_law_behind_way", "_law_due", "_law_asked", "_law_told", "_law_j", "_law_k"]
theorem scRi : FnScope nRi ["_law_well_here"] (defScope sRi) := ⟨rfl, rfl, rfl, by decide +kernel, rfl, by decide +kernel, by decide +kernel⟩
def forB2 : Stmt → List Stmt
  | .For _ _ b _ _ => b
  | _ => []
def asgV2 : Stmt → Expr
  | .Assign _ e _ => e
  | _ => .Name "" ⟨0, 0, 0, 0⟩
def argV : Expr → Expr
  | .Call _ (e :: _) _ _ => e
  | e => e
def rTupOf2 (K : PySem.W.Frag) : List V → Hp → VK → Prop := fun xs H Q => ∃ p ys, xs = [.ref p] ∧ ((SqL K H p ys ∧ ∀ l, H l = none → Q (.ref l) (upd H l (.tup ys))) ∨ (SqT K H p ys ∧ Q (.ref p) H))
def rListOf (K : PySem.W.Frag) : List V → Hp → VK → Prop := fun xs H Q => ∃ p ys, xs = [.ref p] ∧ (SqL K H p ys ∨ SqT K H p ys) ∧ ∀ l, H l = none → Q (.ref l) (upd H l (.lst ys))
structure BlL (mg : Str → Option Value) : Prop where
  list : mg "list" = none
theorem withB {G : Prop} {R : Bool → Hp → Prop} (Pr : Bool → Hp → Prop) (h : (∀ b H, Pr b H → R b H) → G) (hR : ∀ b H, Pr b H → R b H) : G := h hR
theorem eqv_ring (rs : List Nat) : PyData.eqv (fD (ofN rs)) (.tuple []) = rs.isEmpty := by
  cases rs with
  | nil => simp [Pg.fD, Pg.ofN, PyData.eqv, PyData.eqvAll]
  | cons r rs => simp [Pg.fD, Pg.ofN, PyData.eqv, PyData.eqvAll]
theorem pl_nilT : PyData.plain (.tuple []) = true := by simp [PyData.plain, PyData.plainAll]
theorem dp_fl (zs : List Int) : PyData.depth (fD zs) ≤ 64 := by
  have := Pg.depth_ints zs
  show PyData.depth (.tuple (zs.map PyData.int)) ≤ 64
  simp only [PyData.depth]
  omega
theorem sh_bools (b : Bool) : PyData.showable (.list [.bool b, .bool b]) = true ∧ PyData.depth (.list [.bool b, .bool b]) ≤ 20 ∧ (PyData.shown (.list [.bool b, .bool b])).length ≤ sizeLine := by
  cases b <;> exact ⟨by decide +kernel, by decide +kernel, by decide +kernel⟩
theorem ofN_snoc (ws : List Nat) : (ofN ws).map V.int ++ [V.int 5] = ((ofN ws ++ [5] : List Int)).map V.int := by rw [List.map_append]; rfl
theorem bad_five (ws rs : List Nat) {m : Nat} (hm : m = 5) : (Pg.okI m (ofN ws ++ [5]) && Pg.okI m (ofN rs)) = false := by
  subst hm
  unfold Pg.okI
  rw [List.all_append]
  have : ([5] : List Int).all (fun z => Pg.ixB 5 (.int z)) = false := by decide
  rw [this, Bool.and_false, Bool.false_and]
def spRi : Sp := fun vs H Q _ => ∃ p, vs = [.ref p] ∧ Well H p ∧ ∀ H', But p H H' → Q (.bl true) H'
theorem kb_ac {K : PySem.W.Frag} {f : Addr} {fd : FuncData} (F : FnP K "accepts" sAc f fd) : KBn K fd ["claim", "certificate"] 0 ["certificate", "claim"] (fun _ ws => ws.reverse) (fun _ zs => zs.reverse) := by
  obtain ⟨oc, od, dV, kV, doc, pm, an, cdv, ct, osl, rfl, lk, hcd, hD, hK⟩ := F.ex
  rcases hD with ⟨_, rfl⟩ | ⟨e, _⟩
  · exact ⟨fun s us ws _ l1 l2 => match us, ws, l1, l2 with | [], [_, _], _, _ => .of_eq rfl, fun r1 r2 => r2.reverse⟩
  · exact absurd rfl e
section
variable {P : Program} {w : World} {K : PySem.W.Frag} {mg : Str → Option Value} {base : Heap} {f : Addr} {fd : FuncData}
theorem ok_ri {fD' fP fM fS fU fX fW fT fB fA : Addr} {dD dP dM dS dU dX dW dT dB dA : FuncData} (F : FnP K "_law_right" sRi f fd) (T : Bl mg) (M : Mo mg) (R : Br mg) (LL : BlL mg) (U : mg "repr" = none)
    (FD : FnP K "_law_draw" sDraw fD' dD) (gD : mg "_law_draw" = some (.ref fD')) (FP : FnP K "_law_pick" sPick fP dP) (gP : mg "_law_pick" = some (.ref fP)) (FM : FnP K "_law_small" sSm fM dM) (gM : mg "_law_small" = some (.ref fM)) (FS : FnP K "_law_shape" sSp fS dS) (gS : mg "_law_shape" = some (.ref fS))
    (FU : FnP K "_law_turns" sTu fU dU) (gU : mg "_law_turns" = some (.ref fU)) (FX : FnP K "_law_text" sTxt fX dX) (gX : mg "_law_text" = some (.ref fX)) (FW : FnP K "_law_words" sLw fW dW) (gW : mg "_law_words" = some (.ref fW)) (FT' : FnP K "_law_step" sSt fT dT) (gT : mg "_law_step" = some (.ref fT)) (FB : FnP K "_law_behind_all" sBa fB dB) (gB : mg "_law_behind_all" = some (.ref fB))
    (FA : FnP K "accepts" sAc fA dA) (gA : mg "accepts" = some (.ref fA)) (GA : FnOk P w K mg base CX0 10 fA dA ["claim", "certificate"] (spAc K)) : FnG P w K mg base 11 f fd ["_law_well_here"] spRi := by
  have GD : FnOk P w K mg base CX0 1 fD' dD ["_law_well_here", "_law_many"] spDraw := ok_draw FD T
  have bD : Binds K dD ["_law_well_here", "_law_many"] [] := FD.bindsN fun _ _ _ _ _ _ us hl => match us, hl with | [_, _], _ => rfl
  have GP : FnOk P w K mg base CX0 2 fP dP ["_law_well_here", "_law_choices"] (spPick K) := ok_pick FP T FD gD
  have bP : Binds K dP ["_law_well_here", "_law_choices"] [] := FP.bindsN fun _ _ _ _ _ _ us hl => match us, hl with | [_, _], _ => rfl
  have GS : FnOk P w K mg base CX0 4 fS dS ["_law_well_here", "_law_size", "_law_wide"] (spShp K) := ok_sp FS T M R FD gD FP gP FM gM
  have bS : Binds K dS ["_law_well_here", "_law_size", "_law_wide"] [] := FS.bindsN fun _ _ _ _ _ _ us hl => match us, hl with | [_, _, _], _ => rfl
  have GU : FnOk P w K mg base CX0 4 fU dU ["_law_well_here", "_law_size"] (spTu K) := ok_tu FU T M R FD gD FP gP FM gM
  have bU : Binds K dU ["_law_well_here", "_law_size"] [] := FU.bindsN fun _ _ _ _ _ _ us hl => match us, hl with | [_, _], _ => rfl
  have GX : FnOk P w K mg base CX0 2 fX dX ["_law_names", "_law_sayings", "_law_branches"] (spTxt K) := Pg.ok_txt FX M FW gW
  have bX : Binds K dX ["_law_names", "_law_sayings", "_law_branches"] [] := FX.bindsN fun _ _ _ _ _ _ us hl => match us, hl with | [_, _, _], _ => rfl
  have GB : FnOk P w K mg base CX0 2 fB dB ["_law_branches", "_law_state", "_law_row_here"] (spBa K) := ok_ba FB M R FT' gT
  have bB : Binds K dB ["_law_branches", "_law_state", "_law_row_here"] [] := FB.bindsN fun _ _ _ _ _ _ us hl => match us, hl with | [_, _, _], _ => rfl
  have bA : Binds K dA ["claim", "certificate"] [] := FA.bindsN fun _ _ _ _ _ _ us hl => match us, hl with | [_, _], _ => rfl
  refine okG F scRi (fun vs H Q E h => ?_) (fun cdv A outer s H vs Q E hgd hr h => ?_)
  · obtain ⟨p, rfl, _⟩ := h
    rfl
  · obtain ⟨p, rfl, hp, k⟩ := h
    have hr1 := hr.mono (show 1 ≤ 10 by decide)
    have hr2 := hr.mono (show 2 ≤ 10 by decide)
    have hr4 := hr.mono (show 4 ≤ 10 by decide)
    refine ⟨_, PSs.nox <| pss_cons (ps_for PassesOwn.never rfl (pi_range1 (by rfl) R.range (pa_cons pe_int pa_nil)) (pg_name (i := 1) scRi.nd rfl (.inl rfl))
        (pss_cons (ps_set (i := 2) scRi.nd rfl (.inr rfl) (pe_op op_add pe_int (pe_call GD hr1 (by rfl) gD FD.kp bD .nil pass0 (pa_cons (pv 0) (pa_cons pe_int pa_nil)))))
        <| pss_cons (ps_set (i := 3) scRi.nd rfl (.inl rfl) (pe_callTy (r := rTupOf2 K) call_tuple_of (by rfl) M.tuple (by decide +kernel) (pa_cons (pe_lc (own := [("_law_k", 17)]) (g := gName 17) (tt := tYes) rfl scRi.nd (pi_range1 (by rfl) R.range (pa_cons (pv 2) pa_nil)) (blkOk_by (N := nRi) (sc := defScope sRi) (by decide +kernel)) (fun _ _ _ _ _ => pg_name (i := 17) scRi.nd rfl (by first | exact Or.inl rfl | exact Or.inr rfl)) (fun _ _ _ _ _ => pts_nil) (fun _ _ _ _ _ => (pe_callTy (r := rTupOf2 K) call_tuple_of (by rfl) M.tuple (by decide +kernel) (pa_cons (pe_op op_catR (pe_lc (own := [("_law_j", 16)]) (g := gName 16) (tt := tYes) rfl scRi.nd (pi_range1 (by rfl) R.range (pa_cons (pv 2) pa_nil)) (blkOk_by (N := nRi) (sc := rlSc2 (lcSc2 (argV (asgV2 ((forB2 ((defBody sRi).getD 0 (.Pass ⟨0, 0, 0, 0⟩))).getD 1 (.Pass ⟨0, 0, 0, 0⟩))))) (defScope sRi)) (by decide +kernel)) (fun _ _ _ _ _ => pg_name (i := 16) scRi.nd rfl (by first | exact Or.inl rfl | exact Or.inr rfl)) (fun _ _ _ _ _ => pts_nil) (fun _ _ _ _ _ => (pe_op op_sub pe_int (pe_callTy (r := rInt1) call_int1 (by rfl) T.int (by decide +kernel) (pa_cons (pe_cmpR op_eq (pv 16) (pv 17) (nomark _)) pa_nil))))) (pe_lstR (pa_cons (pe_call GD hr1 (by rfl) gD FD.kp bD .nil pass0 (pa_cons (pv 0) (pa_cons pe_int pa_nil))) pa_nil))) pa_nil)))) pa_nil)))
        <| pss_cons (ps_set (i := 4) scRi.nd rfl (.inl rfl) (pe_callTy (r := rTupOf2 K) call_tuple_of (by rfl) M.tuple (by decide +kernel) (pa_cons (pe_lc (own := [("_law_k", 17)]) (g := gName 17) (tt := tYes) rfl scRi.nd (pi_range1 (by rfl) R.range (pa_cons (pv 2) pa_nil)) (blkOk_by (N := nRi) (sc := defScope sRi) (by decide +kernel)) (fun _ _ _ _ _ => pg_name (i := 17) scRi.nd rfl (by first | exact Or.inl rfl | exact Or.inr rfl)) (fun _ _ _ _ _ => pts_nil) (fun _ _ _ _ _ => (pe_callTy (r := rTupOf2 K) call_tuple_of (by rfl) M.tuple (by decide +kernel) (pa_cons (pe_op op_catR (pe_lc (own := [("_law_j", 16)]) (g := gName 16) (tt := tYes) rfl scRi.nd (pi_range1 (by rfl) R.range (pa_cons (pv 2) pa_nil)) (blkOk_by (N := nRi) (sc := rlSc2 (lcSc2 (argV (asgV2 ((forB2 ((defBody sRi).getD 0 (.Pass ⟨0, 0, 0, 0⟩))).getD 2 (.Pass ⟨0, 0, 0, 0⟩))))) (defScope sRi)) (by decide +kernel)) (fun _ _ _ _ _ => pg_name (i := 16) scRi.nd rfl (by first | exact Or.inl rfl | exact Or.inr rfl)) (fun _ _ _ _ _ => pts_nil) (fun _ _ _ _ _ => (pe_callTy (r := rInt1) call_int1 (by rfl) T.int (by decide +kernel) (pa_cons (pe_cmpR op_eq (pv 16) (pv 17) (nomark _)) pa_nil)))) (pe_lstR (pa_cons pe_int pa_nil))) pa_nil)))) pa_nil)))
        <| pss_cons (ps_set (i := 5) scRi.nd rfl (.inl rfl) (pe_lstR (pa_cons (pe_tupR (pa_cons pe_str (pa_cons pe_str (pa_cons (pe_tupR pa_nil) (pa_cons (pv 3) pa_nil))))) (pa_cons (pe_tupR (pa_cons pe_str (pa_cons pe_str (pa_cons (pe_tupR pa_nil) (pa_cons (pv 3) pa_nil))))) (pa_cons (pe_tupR (pa_cons pe_str (pa_cons pe_str (pa_cons (pe_tupR (pa_cons (pe_call GS hr4 (by rfl) gS FS.kp bS .nil pass0 (pa_cons (pv 0) (pa_cons (pv 2) (pa_cons pe_int pa_nil)))) pa_nil)) (pa_cons (pv 4) pa_nil))))) pa_nil)))))
        <| pss_cons (ps_set (i := 5) scRi.nd rfl (.inl rfl) (pe_op op_catR (pv 5) (pe_lstR (pa_cons (pe_tupR (pa_cons pe_str (pa_cons pe_str (pa_cons (pe_tupR pa_nil) (pa_cons (pv 4) pa_nil))))) (pa_cons (pe_tupR (pa_cons pe_str (pa_cons pe_str (pa_cons (pe_tupR (pa_cons (pe_call GS hr4 (by rfl) gS FS.kp bS .nil pass0 (pa_cons (pv 0) (pa_cons (pv 2) (pa_cons pe_int pa_nil)))) pa_nil)) (pa_cons (pe_call GU hr4 (by rfl) gU FU.kp bU .nil pass0 (pa_cons (pv 0) (pa_cons (pv 2) pa_nil))) pa_nil))))) pa_nil)))))
        <| pss_cons (ps_set (i := 6) scRi.nd rfl (.inl rfl) (pe_call GX hr2 (by rfl) gX FX.kp bX .nil pass0 (pa_cons (pe_slice (r := Pg.rSlTR K) Pg.sl_tupR (pe_tupR (pa_cons pe_str (pa_cons pe_str pa_nil))) po_none (po_some (pv 2))) (pa_cons (pe_lstR pa_nil) (pa_cons (pv 5) pa_nil)))))
        <| pss_one (ps_for PassesOwn.never rfl (pi_range1 (by rfl) R.range (pa_cons pe_int pa_nil)) (pg_name (i := 7) scRi.nd rfl (.inl rfl))
        (pss_cons (ps_par (by rfl) scRi.nd (i := 8) (j := 9) rfl rfl (by decide) rfl rfl (pa_cons (pe_call GP hr2 (by rfl) gP FP.kp bP .nil pass0 (pa_cons (pv 0) (pa_cons (pe_lstR (pa_cons pe_str (pa_cons pe_str pa_nil))) pa_nil))) (pa_cons (pe_callTy (r := rTupOf2 K) call_tuple_of (by rfl) M.tuple (by decide +kernel) (pa_cons (pe_lc (own := [("_law_k", 17)]) (g := gName 17) (tt := tYes) rfl scRi.nd (pi_range1 (by rfl) R.range (pa_cons (pv 2) pa_nil)) (blkOk_by (N := nRi) (sc := defScope sRi) (by decide +kernel)) (fun _ _ _ _ _ => pg_name (i := 17) scRi.nd rfl (by first | exact Or.inl rfl | exact Or.inr rfl)) (fun _ _ _ _ _ => pts_nil) (fun _ _ _ _ _ => (pe_op op_sub (pe_call GD hr1 (by rfl) gD FD.kp bD .nil pass0 (pa_cons (pv 0) (pa_cons pe_int pa_nil))) pe_int))) pa_nil)) pa_nil)) (by rfl))
        <| pss_cons (ps_set (i := 10) scRi.nd rfl (.inl rfl) (pe_callTy (r := rTupOf2 K) call_tuple_of (by rfl) M.tuple (by decide +kernel) (pa_cons (pe_lc (own := [("_law_k", 17)]) (g := gName 17) (tt := tYes) rfl scRi.nd (pi_range1 (by rfl) R.range (pa_cons (pe_call GD hr1 (by rfl) gD FD.kp bD .nil pass0 (pa_cons (pv 0) (pa_cons pe_int pa_nil))) pa_nil)) (blkOk_by (N := nRi) (sc := defScope sRi) (by decide +kernel)) (fun _ _ _ _ _ => pg_name (i := 17) scRi.nd rfl (by first | exact Or.inl rfl | exact Or.inr rfl)) (fun _ _ _ _ _ => pts_nil) (fun _ _ _ _ _ => (pe_call GD hr1 (by rfl) gD FD.kp bD .nil pass0 (pa_cons (pv 0) (pa_cons pe_int pa_nil))))) pa_nil)))
        <| pss_cons (ps_set (i := 11) scRi.nd rfl (.inl rfl) (pe_call GP hr2 (by rfl) gP FP.kp bP .nil pass0 (pa_cons (pv 0) (pa_cons (pe_lstR (pa_cons (pe_tupR (pa_cons pe_int (pa_cons pe_int pa_nil))) (pa_cons (pe_tupR (pa_cons pe_int (pa_cons pe_int pa_nil))) (pa_cons (pe_tupR (pa_cons pe_int pa_nil)) (pa_cons (pe_tupR (pa_cons pe_int (pa_cons pe_int (pa_cons pe_int (pa_cons pe_int pa_nil))))) (pa_cons (pe_tupR pa_nil) (pa_cons (pe_tupR (pa_cons pe_int pa_nil)) (pa_cons (pe_tupR (pa_cons pe_int (pa_cons pe_int pa_nil))) (pa_cons (pe_tupR (pa_cons pe_int (pa_cons pe_int pa_nil))) (pa_cons (pe_tupR (pa_cons pe_int (pa_cons pe_int pa_nil))) pa_nil)))))))))) pa_nil))))
        <| pss_cons (ps_if (pt_cmpR op_eq (pe_call GD hr1 (by rfl) gD FD.kp bD .nil pass0 (pa_cons (pv 0) (pa_cons pe_int pa_nil))) pe_int (nomark _)) (pss_one (ps_set (i := 10) scRi.nd rfl (.inl rfl) (pe_tupR pa_nil))) pss_nil)
        <| pss_cons (ps_set (i := 12) scRi.nd rfl (.inl rfl) (pe_call GB hr2 (by rfl) gB FB.kp bB .nil pass0 (pa_cons (pv 5) (pa_cons (pe_lstR (pa_cons (pv 8) (pa_cons (pe_callTy (r := rListOf K) call_list_of (by rfl) LL.list (by decide +kernel) (pa_cons (pv 9) pa_nil)) pa_nil))) (pa_cons (pv 10) pa_nil)))))
        <| pss_cons (ps_set (i := 13) scRi.nd rfl (.inl rfl) (pe_and (pe_cmpR (op_neP hr.units) (pv 11) (pe_tupR pa_nil) (nomark _)) (pe_and (pe_cmpR (op_neE hr.units) (pv 12) (pe_lstR pa_nil) (nomark _)) (pe_one (pe_cmpR (op_eqP hr.units) (pe_call GB hr2 (by rfl) gB FB.kp bB .nil pass0 (pa_cons (pv 5) (pa_cons (pv 12) (pa_cons (pv 11) pa_nil)))) (pv 12) (nomark _))))))
        <| pss_cons (ps_set (i := 14) scRi.nd rfl (.inl rfl) (pe_tupR (pa_cons pe_str (pa_cons (pv 6) (pa_cons (pv 8) (pa_cons (pv 9) pa_nil))))))
        <| pss_cons (ps_set (i := 15) scRi.nd rfl (.inl rfl) (pe_lstR (pa_cons (pe_call GA hr (by rfl) gA FA.kp bA .nil pass0 (pa_cons (pv 14) (pa_cons (pe_tupR (pa_cons (pv 10) (pa_cons (pv 11) pa_nil))) pa_nil))) (pa_cons (Ow.pe_callK0 GA hr (by rfl) gA FA.kp (kb_ac FA) pass0 (pk_cons (pe_tupR (pa_cons (pv 10) (pa_cons (pv 11) pa_nil))) (pk_cons (pv 14) pk_nil))) pa_nil))))
        <| pss_one (ps_if (PW.pt (pw_or (pt_cmpR op_ne (pe_callB (call_repr hgd hr.units) (by rfl) U boot_repr (pa_cons (pv 15) pa_nil)) (pe_callB (call_repr hgd hr.units) (by rfl) U boot_repr (pa_cons (pe_lstR (pa_cons (pv 13) (pa_cons (pv 13) pa_nil))) pa_nil)) (nomark _)) (pw_or (pt_val (pe_call GA hr (by rfl) gA FA.kp bA .nil pass0 (pa_cons (pv 14) (pa_cons (pe_tupR (pa_cons (pe_op op_catA (pv 10) (pe_tupR (pa_cons pe_int pa_nil))) (pa_cons (pv 11) pa_nil))) pa_nil)))) (pw_or1 (pt_val (pe_call GA hr (by rfl) gA FA.kp bA .nil pass0 (pa_cons (pv 14) (pa_cons (pe_lstR (pa_cons (pv 10) (pa_cons (pv 11) pa_nil))) pa_nil)))))))) (pss_one (ps_ret pe_bl)) pss_nil)))))
      <| pss_one (ps_ret pe_bl), ?_⟩
    refine ⟨4, rfl, by decide, by decide, for_range (n := 4) (fun i σ H' => ∃ (x1 x2 x3 x4 x5 x6 x7 x8 x9 x10 x11 x12 x13 x14 x15 : Option V), σ = [some (.ref p), x1, x2, x3, x4, x5, x6, x7, x8, x9, x10, x11, x12, x13, x14, x15, none, none] ∧ Well H' p ∧ But p H H') ⟨none, none, none, none, none, none, none, none, none, none, none, none, none, none, none, rfl, hp, But.refl⟩ ?_ ?_⟩
    · rintro i σ H1 hi ⟨x1, x2, x3, x4, x5, x6, x7, x8, x9, x10, x11, x12, x13, x14, x15, rfl, hp1, b1⟩
      refine ⟨_, rfl, p, _, rfl, hp1, by decide, by decide, fun d H2 d0 d2 hp2 b2 => ⟨_, _, rfl, rfl, ?_⟩⟩
      obtain ⟨m, hm⟩ : ∃ m : Nat, 1 + d = (m : Int) := ⟨(1 + d).toNat, by omega⟩
      have m1 : 1 ≤ m := by omega
      have m2 : m ≤ 2 := by omega
      show gName 2 (.int (1 + d)) _ H2 _
      rw [hm]
      have b02 := b1.trans b2
      refine ⟨_, rfl, _, rfl, by omega, by omega, fun D hD => ?_⟩
      have dp : D ≠ p := well_ne hp2 hD
      refine lc_range (lo := 0) (n := ((m : Nat) : Int).toNat) (fun j H' => ∃ (xs : List V) (ts : List (List Int)), H' D = some (.lst xs) ∧ FT K H' xs ts ∧ ts.length = j ∧ Fms m ts ∧ Well H' p ∧ But p H2 H') ⟨[], [], upd_same, .nil, rfl, fms_nil m, well_upd hp2 dp, But.same (same_new hD)⟩ ?_ ?_
      · rintro j H3 hj ⟨xs, ts, h3, f3, l3, t3, hp3, b3⟩
        rw [Int.toNat_natCast] at hj
        refine ⟨rfl, _, rfl, _, rfl, by omega, by omega, fun D2 hD2 => ?_⟩
        have d2p : D2 ≠ p := well_ne hp3 hD2
        refine lc_range (lo := 0) (n := ((m : Nat) : Int).toNat) (fun q H' => ∃ g : List Int, g.length = q ∧ Sml g ∧ H' D2 = some (.lst (g.map V.int)) ∧ Same H3 H') ⟨[], rfl, (fun _ h => by cases h), upd_same, same_new hD2⟩ ?_ ?_
        · rintro q H4 hq ⟨g, lg, hg, h4, s4⟩
          refine ⟨rfl, _, rfl, _, rfl, rfl, .inr ⟨_, rfl, _, _, rfl, rfl, _, h4, small1000 (by rw [List.length_map]; omega), g ++ [0 - if decide (V.int (0 + (q : Int)) = V.int (0 + (j : Int))) = true then 1 else 0], by rw [List.length_append, lg]; rfl, sml_snoc hg (by split <;> decide), ?_, upd_new s4 hD2⟩⟩
          rw [upd_same, List.map_append]
          rfl
        · rintro H4 ⟨g, lg, hg, h4, s4⟩
          rw [Int.toNat_natCast] at lg
          refine ⟨_, rfl, p, _, rfl, hp3.same s4, by decide, by decide, fun e H5 e0 e9 hp5 b5 => ⟨by show 1 ≤ 1000; decide, fun A1 H6 n6 => ?_⟩⟩
          refine ⟨D2, A1, _, _, rfl, rfl, n6.2.2 _ _ (b5 _ _ h4 d2p), n6.2.1, by rw [List.length_map, lg]; show _ + 1 ≤ 1000; omega, fun A2 H7 n7 => ⟨A2, _, rfl, .inl ⟨SqL.of n7.2.1, fun T1 nT => ?_⟩⟩⟩
          have s5T := (n6.2.2.trans n7.2.2).trans (same_new (o := .tup (g.map V.int ++ [V.int e])) nT)
          have b3T : But p H3 (upd H7 T1 (.tup (g.map V.int ++ [V.int e]))) := ((But.same s4).trans b5).trans (But.same s5T)
          have hDT := b3T _ _ h3 dp
          refine ⟨xs, hDT, small1000 (by rw [ft_len f3]; omega), xs ++ [.ref T1], ts ++ [g ++ [e]], upd_same, ft_nl (nl_upd hDT) (ft_push (ft_nl (but_nl b3T hp3) f3) (SqT.of ?_)), by rw [List.length_append, l3]; rfl, fms_snoc t3 (by rw [List.length_append, lg]; rfl) (sml_snoc hg (by omega)), well_upd (hp5.same s5T) dp, but_upd hD b3 b3T⟩
          rw [upd_same, List.map_append]
          rfl
      · rintro H3 ⟨xf, tf, h3, f3, l3, t3, hp3, b3⟩
        rw [Int.toNat_natCast] at l3
        refine ⟨D, _, rfl, .inl ⟨SqL.of h3, fun TF nTF => ?_⟩⟩
        have s3 := same_new (o := .tup xf) nTF
        have hTF4 : upd H3 TF (.tup xf) TF = some (.tup xf) := upd_same
        have f4 := ft_nl (nl_same s3) f3
        have hp4 := hp3.same s3
        have b04 := (b02.trans b3).trans (But.same s3)
        show gName 3 (.ref TF) _ (upd H3 TF (.tup xf)) _
        generalize upd H3 TF (.tup xf) = H4 at hTF4 f4 hp4 b04 ⊢
        refine ⟨_, rfl, _, rfl, by omega, by omega, fun D3 hD3 => ?_⟩
        have d3p : D3 ≠ p := well_ne hp4 hD3
        refine lc_range (lo := 0) (n := ((m : Nat) : Int).toNat) (fun j H' => ∃ (xs : List V) (ts : List (List Int)), H' D3 = some (.lst xs) ∧ FT K H' xs ts ∧ ts.length = j ∧ Fms m ts ∧ Same H4 H') ⟨[], [], upd_same, .nil, rfl, fms_nil m, same_new hD3⟩ ?_ ?_
        · rintro j H5 hj ⟨xs, ts, h5, f5, l5, t5, s5⟩
          rw [Int.toNat_natCast] at hj
          refine ⟨rfl, _, rfl, _, rfl, by omega, by omega, fun D2 hD2 => ?_⟩
          refine lc_range (lo := 0) (n := ((m : Nat) : Int).toNat) (fun q H' => ∃ g : List Int, g.length = q ∧ Sml g ∧ H' D2 = some (.lst (g.map V.int)) ∧ Same H5 H') ⟨[], rfl, (fun _ h => by cases h), upd_same, same_new hD2⟩ ?_ ?_
          · rintro q H6 hq ⟨g, lg, hg, h6, s6⟩
            refine ⟨rfl, _, rfl, _, rfl, rfl, .inr ⟨_, rfl, _, h6, small1000 (by rw [List.length_map]; omega), g ++ [if decide (V.int (0 + (q : Int)) = V.int (0 + (j : Int))) = true then 1 else 0], by rw [List.length_append, lg]; rfl, sml_snoc hg (by split <;> decide), ?_, upd_new s6 hD2⟩⟩
            rw [upd_same, List.map_append]
            rfl
          · rintro H6 ⟨g, lg, hg, h6, s6⟩
            rw [Int.toNat_natCast] at lg
            refine ⟨by show 1 ≤ 1000; decide, fun A1 H7 n7 => ?_⟩
            refine ⟨D2, A1, _, _, rfl, rfl, n7.2.2 _ _ h6, n7.2.1, by rw [List.length_map, lg]; show _ + 1 ≤ 1000; omega, fun A2 H8 n8 => ⟨A2, _, rfl, .inl ⟨SqL.of n8.2.1, fun T1 nT => ?_⟩⟩⟩
            have s5T := ((s6.trans n7.2.2).trans n8.2.2).trans (same_new (o := .tup (g.map V.int ++ [V.int 0])) nT)
            have hDT := s5T _ _ h5
            refine ⟨xs, hDT, small1000 (by rw [ft_len f5]; omega), xs ++ [.ref T1], ts ++ [g ++ [0]], upd_same, ft_nl (nl_upd hDT) (ft_push (ft_nl (nl_same s5T) f5) (SqT.of ?_)), by rw [List.length_append, l5]; rfl, fms_snoc t5 (by rw [List.length_append, lg]; rfl) (sml_snoc hg (by decide)), upd_new (s5.trans s5T) hD3⟩
            rw [upd_same, List.map_append]
            rfl
        · rintro H5 ⟨xy, sy, h5, f5, l5, t5, s5⟩
          rw [Int.toNat_natCast] at l5
          refine ⟨D3, _, rfl, .inl ⟨SqL.of h5, fun SY nSY => ?_⟩⟩
          have s6 := same_new (o := .tup xy) nSY
          have hSYa : upd H5 SY (.tup xy) SY = some (.tup xy) := upd_same
          have fSa := ft_nl (nl_same s6) f5
          have s46 := s5.trans s6
          show gName 4 (.ref SY) _ (upd H5 SY (.tup xy)) _
          generalize upd H5 SY (.tup xy) = Ha at hSYa fSa s46 ⊢
          have hTFa := s46 _ _ hTF4
          have fTa := ft_nl (nl_same s46) f4
          have hpa := hp4.same s46
          have b0a := b04.trans (But.same s46)
          clear hTF4 f4 hp4 b04 s46 s6 nSY h5 f5 s5 hD3 d3p s3 nTF h3 f3 b3 hp3 hD dp b02 b2 hp2
          refine ⟨by show 0 ≤ 1000; decide, fun t1 H4a m1' => ⟨_, rfl, by show 4 ≤ 1000; decide, fun A1 H4b mA1 => ⟨by show 0 ≤ 1000; decide, fun t2 H4c m2' => ⟨_, rfl, by show 4 ≤ 1000; decide, fun A2 H4d mA2 => ?_⟩⟩⟩⟩
          have sad := ((m1'.2.2.trans mA1.2.2).trans m2'.2.2).trans mA2.2.2
          have hp4d := hpa.same sad
          refine ⟨_, rfl, _, rfl, p, m, 3, rfl, hp4d, by omega, by decide, by decide, fun q1 g1 H4e lg1 sg1 hq1 hp4e be1 => ⟨by show 1 ≤ 1000; decide, fun t3' H4f m3' => ⟨_, rfl, by show 4 ≤ 1000; decide, fun A3 H4g mA3 => ⟨by show 3 ≤ 1000; decide, fun B1 H4h mB1 => ?_⟩⟩⟩⟩
          have seh := (m3'.2.2.trans mA3.2.2).trans mB1.2.2
          have hp4h := hp4e.same seh
          refine ⟨_, rfl, by show 0 ≤ 1000; decide, fun t4 H5a m4' => ⟨_, rfl, by show 4 ≤ 1000; decide, fun A4 H5b mA4 => ?_⟩⟩
          have shb := m4'.2.2.trans mA4.2.2
          have hp5b := hp4h.same shb
          refine ⟨_, rfl, _, rfl, p, m, 2, rfl, hp5b, by omega, by decide, by decide, fun q2 g2 H5c lg2 sg2 hq2 hp5c be2 => ⟨by show 1 ≤ 1000; decide, fun t5' H5d m5' => ?_⟩⟩
          have hp5d := hp5c.same m5'.2.2
          refine ⟨_, rfl, _, rfl, p, m, rfl, hp5d, m1, by omega, fun q3 xu tu H5e hq3 fu lu tuf hp5e be3 => ⟨by show 4 ≤ 1000; decide, fun A5 H5f mA5 => ⟨by show 2 ≤ 1000; decide, fun B2 H5g mB2 => ?_⟩⟩⟩
          have hB1g : H5g B1 = some (.lst [.ref A1, .ref A2, .ref A3]) := by
            have B1p : B1 ≠ p := well_ne ((hp4e.same m3'.2.2).same mA3.2.2) mB1.1
            exact mB2.2.2 _ _ (mA5.2.2 _ _ (be3 _ _ (m5'.2.2 _ _ (be2 _ _ (shb _ _ mB1.2.1) B1p)) B1p))
          refine ⟨B1, B2, _, _, rfl, rfl, hB1g, mB2.2.1, by show 3 + 2 ≤ 1000; decide, fun BL He mBL => ?_⟩
          have e1 : Nl H5f He := (nl_same mB2.2.2).trans (nl_same mBL.2.2)
          have e2 : Nl H5e He := (nl_same mA5.2.2).trans e1
          have e3 : Nl H5d He := (but_nl be3 hp5d).trans e2
          have e4 : Nl H5c He := (nl_same m5'.2.2).trans e3
          have e5 : Nl H5b He := (but_nl be2 hp5b).trans e4
          have e6 : Nl H5a He := (nl_same mA4.2.2).trans e5
          have e7 : Nl H4h He := (nl_same m4'.2.2).trans e6
          have e8 : Nl H4g He := (nl_same mB1.2.2).trans e7
          have e9 : Nl H4f He := (nl_same mA3.2.2).trans e8
          have e10 : Nl H4e He := (nl_same m3'.2.2).trans e9
          have e11 : Nl H4d He := (but_nl be1 hp4d).trans e10
          have e12 : Nl H4c He := (nl_same mA2.2.2).trans e11
          have e13 : Nl H4b He := (nl_same m2'.2.2).trans e12
          have e14 : Nl H4a He := (nl_same mA1.2.2).trans e13
          have e15 : Nl Ha He := (nl_same m1'.2.2).trans e14
          have dTF : Dp K He (.ref TF) (.tuple (tf.map fD)) := .tup (seqT_nl e15 (SqT.of hTFa)) (ft_nl e15 fTa)
          have dSY : Dp K He (.ref SY) (.tuple (sy.map fD)) := .tup (seqT_nl e15 (SqT.of hSYa)) (ft_nl e15 fSa)
          have dTU : Dp K He (.ref q3) (.tuple (tu.map fD)) := .tup (seqT_nl e2 hq3) (ft_nl e2 fu)
          have no : ∀ {Hx : Hp} {t : Addr}, Nl Hx He → Hx t = some (.tup []) → Dp K He (.ref t) (.tuple (([] : List (List Int)).map fD)) := fun nl h => .tup (seqT_nl nl (SqT.of h)) .nil
          have on : ∀ {Hx Hy : Hp} {t q : Addr} {g : List Int}, Nl Hx He → Hx t = some (.tup [.ref q]) → Nl Hy He → SqT K Hy q (g.map V.int) → Dp K He (.ref t) (.tuple (([g] : List (List Int)).map fD)) := fun nl h nl2 hq => .tup (seqT_nl nl (SqT.of h)) (.cons (Pg.dp_ints (seqT_nl nl2 hq)) .nil)
          have mk : ∀ {Hx : Hp} {t : Addr} {s1 s2 : Str} {v1 v2 : V} {ts cs : List (List Int)}, Nl Hx He → Hx t = some (.tup [.str s1, .str s2, v1, v2]) → Dp K He v1 (.tuple (ts.map fD)) → Dp K He v2 (.tuple (cs.map fD)) → Dp K He (.ref t) (armD ⟨s1, s2, ts, cs⟩) := fun nl h h1 h2 => .tup (seqT_nl nl (SqT.of h)) (.cons (.str _) (.cons (.str _) (.cons h1 (.cons h2 .nil))))
          have dAll : DpAll K He ([.ref A1, .ref A2, .ref A3] ++ [.ref A4, .ref A5]) ((arms5 tf sy tu g1 g2).map armD) :=
            .cons (mk e13 mA1.2.1 (no e14 m1'.2.1) dTF) (.cons (mk e11 mA2.2.1 (no e12 m2'.2.1) dTF) (.cons (mk e8 mA3.2.1 (on e9 m3'.2.1 e10 hq1) dSY) (.cons (mk e5 mA4.2.1 (no e6 m4'.2.1) dSY) (.cons (mk e1 mA5.2.1 (on e3 m5'.2.1 e4 hq2) dTU) .nil))))
          have hpe : Well He p := (hp5e.same mA5.2.2).same (mB2.2.2.trans mBL.2.2)
          have b0e : But p H He := ((((((((b0a.trans (But.same sad)).trans be1).trans (But.same seh)).trans (But.same shb)).trans be2).trans (But.same m5'.2.2)).trans be3).trans (But.same mA5.2.2)).trans (But.same (mB2.2.2.trans mBL.2.2))
          have BLp : BL ≠ p := well_ne ((hp5e.same mA5.2.2).same mB2.2.2) mBL.1
          have hBLe := mBL.2.1
          have prt : Parts m tf sy tu g1 g2 := ⟨t3, l3, t5, l5, tuf, lu, lg1, sg1, lg2, sg2⟩
          have okP := prog_ok m1 m2 prt
          have aok := arms_ok prt
          clear dTF dSY dTU no on mk e1 e2 e3 e4 e5 e6 e7 e8 e9 e10 e11 e12 e13 e14 e15 hB1g
          have cutN : cutV ([.str "x", .str "y"] : List V) none (some (m : Int)) = (nms m).map V.str := by
            rw [Pg.cut_take (show m ≤ ([V.str "x", V.str "y"] : List V).length from m2)]
            unfold nms
            rw [List.map_take]
            rfl
          generalize hys : ([.ref A1, .ref A2, .ref A3] ++ [.ref A4, .ref A5] : List V) = ys at dAll hBLe ⊢
          generalize has' : arms5 tf sy tu g1 g2 = as at dAll okP aok ⊢
          have hpl : placesS [] as = (["a", "b"] : List Str) := by rw [← has']; exact places_is _ _ _ _ _
          have la5 : as.length = 5 := by rw [← has']; rfl
          show gName 5 (.ref BL) _ He _
          refine ⟨by show 2 ≤ 1000; decide, fun tn Hf nf => ⟨_, rfl, m, rfl, tn, _, rfl, SqT.of nf.2.1, fun qn Hg sg hqn => ⟨by show 0 ≤ 1000; decide, fun en Hh nh => ?_⟩⟩⟩
          rw [cutN] at hqn
          have seh := (nf.2.2.trans sg).trans nh.2.2
          refine ⟨_, rfl, qn, en, BL, [], ys, m, nms m, [], as, rfl, Same.seqT nh.2.2 hqn, SqL.of nh.2.1, .nil, SqL.of (seh _ _ hBLe), dp_sameAll seh _ dAll, by
            have := okP.t
            rw [(nms_ok m1 m2).2] at this
            exact this, fun Hi si => ?_⟩
          have sei := seh.trans si
          have hBLi := sei _ _ hBLe
          have dAi := dp_sameAll sei _ dAll
          have hpi := hpe.same sei
          have b0i := b0e.trans (But.same sei)
          clear dAll hBLe hpe b0e seh sei si nh hqn sg nf
          have lnm := (nms_ok m1 m2).2
          have nA : Pg.nolAll (as.map armD) = true := Pg.nol_map Pg.nol_arm as
          refine ⟨8, rfl, by decide, by decide, for_range (n := 8) (fun i σ H' => ∃ (y1 y7 y8 y9 y10 y11 y12 y13 y14 y15 : Option V), σ = [some (.ref p), y1, some (.int (m : Nat)), some (.ref TF), some (.ref SY), some (.ref BL), some (.str (textS (nms m) [] as)), y7, y8, y9, y10, y11, y12, y13, y14, y15, none, none] ∧ Well H' p ∧ But p Hi H') ⟨_, _, _, _, _, _, _, _, _, _, rfl, hpi, But.refl⟩ ?_ ?_⟩
          · rintro i2 σ J1 hi2 ⟨y1, y7, y8, y9, y10, y11, y12, y13, y14, y15, rfl, kp1, c1⟩
            refine ⟨_, rfl, by show 2 ≤ 1000; decide, fun l J2 k2 => ⟨p, l, _, rfl, kp1.same k2.2.2, k2.2.1, well_ne kp1 k2.1, by show 0 < 2; decide, by show 2 ≤ 1000; decide, fun ax z0 J3 ez kp3 c3 => ?_⟩⟩
            obtain ⟨z, rfl, hz⟩ : ∃ z : Str, z0 = .str z ∧ z ∈ placesS [] as := by
              rw [hpl]
              have m := List.mem_of_getElem? ez
              simp only [List.mem_cons, List.not_mem_nil, or_false] at m
              rcases m with rfl | rfl
              · exact ⟨_, rfl, by simp⟩
              · exact ⟨_, rfl, by simp⟩
            have c13 := (But.same k2.2.2).trans c3
            have c03 := c1.trans c13
            refine ⟨_, rfl, _, rfl, by omega, by omega, fun D hD => ?_⟩
            have dp : D ≠ p := well_ne kp3 hD
            refine lc_range (lo := 0) (n := ((m : Nat) : Int).toNat) (fun j H' => ∃ g : List Int, g.length = j ∧ Bn 4 g ∧ H' D = some (.lst (g.map V.int)) ∧ Well H' p ∧ But p J3 H') ⟨[], rfl, (fun _ h => by cases h), upd_same, well_upd kp3 dp, But.same (same_new hD)⟩ ?_ ?_
            · rintro j J4 hj ⟨g, lg, hg, h4, kp4, c4⟩
              refine ⟨rfl, _, rfl, p, _, rfl, kp4, by decide, by decide, fun e J5 e0 e9 kp5 c5 => ⟨_, _, rfl, rfl, _, c5 _ _ h4 dp, small1000 (by rw [List.length_map]; omega), g ++ [e - 3], by rw [List.length_append, lg]; rfl, mem_snoc (P := fun z => z.natAbs < 2 ^ 4) hg (by omega), ?_, well_upd kp5 dp, but_upd hD c4 c5⟩⟩
              rw [upd_same, List.map_append]
              rfl
            · rintro J4 ⟨xs, lxs, hxs, h4, kp4, c4⟩
              rw [Int.toNat_natCast] at lxs
              refine ⟨D, _, rfl, .inl ⟨SqL.of h4, fun PT nPT => ⟨_, _, rfl, ?_⟩⟩⟩
              have s5 := same_new (o := .tup (xs.map V.int)) nPT
              have hPT : SqT K (upd J4 PT (.tup (xs.map V.int))) PT (xs.map V.int) := SqT.of upd_same
              have kp5 := kp4.same s5
              have c05 := (c03.trans c4).trans (But.same s5)
              show Ends.nx _ _ (upd J4 PT (.tup (xs.map V.int)))
              generalize upd J4 PT (.tup (xs.map V.int)) = J5 at hPT kp5 c05 ⊢
              clear s5 nPT h4 kp4 c4 dp hD c03 c13 kp3 c3
              refine ⟨_, rfl, p, _, rfl, kp5, by decide, by decide, fun cn J6 n0 n4 kp6 c6 => ⟨_, rfl, by omega, by omega, fun D hD => ?_⟩⟩
              have dp : D ≠ p := well_ne kp6 hD
              refine lc_range (lo := 0) (n := cn.toNat) (fun j H' => ∃ ws : List Nat, ws.length = j ∧ (∀ i ∈ ws, i < 5) ∧ H' D = some (.lst ((ofN ws).map V.int)) ∧ Well H' p ∧ But p J6 H') ⟨[], rfl, (fun _ h => by cases h), upd_same, well_upd kp6 dp, But.same (same_new hD)⟩ ?_ ?_
              · rintro j J7 hj ⟨ws, lw, hw, h7, kp7, c7⟩
                refine ⟨rfl, _, rfl, p, _, rfl, kp7, by decide, by decide, fun e J8 e0 e5 kp8 c8 => ⟨_, c8 _ _ h7 dp, small1000 (by unfold Pg.ofN; rw [List.length_map, List.length_map]; omega), ws ++ [e.toNat], by rw [List.length_append, lw]; rfl, fun q hq => ?_, ?_, well_upd kp8 dp, but_upd hD c7 c8⟩⟩
                · rcases List.mem_append.mp hq with h | h
                  · exact hw q h
                  · rw [List.mem_singleton.mp h]
                    omega
                · rw [upd_same]
                  unfold Pg.ofN
                  rw [List.map_append, List.map_append]
                  show some (HO.lst (_ ++ [V.int e])) = some (HO.lst (_ ++ [V.int ((e.toNat : Nat) : Int)]))
                  rw [Int.toNat_of_nonneg e0]
              · rintro J7 ⟨ws, lw, hw, h7, kp7, c7⟩
                refine ⟨D, _, rfl, .inl ⟨SqL.of h7, fun WY nWY => ?_⟩⟩
                have s8 := same_new (o := .tup ((ofN ws).map V.int)) nWY
                have hWY : SqT K (upd J7 WY (.tup ((ofN ws).map V.int))) WY ((ofN ws).map V.int) := SqT.of upd_same
                have kp8 := kp7.same s8
                have c58 := (c6.trans c7).trans (But.same s8)
                show gName 10 (.ref WY) _ (upd J7 WY (.tup ((ofN ws).map V.int))) _
                generalize upd J7 WY (.tup ((ofN ws).map V.int)) = J8 at hWY kp8 c58 ⊢
                have hPT8 := seqT_nl (but_nl c58 kp5) hPT
                have c08 := c05.trans c58
                have lw3 : ws.length ≤ 4 := by omega
                clear s8 nWY h7 kp7 c7 hPT kp5 c05 c58 kp6 c6 dp hD n0 n4
                refine ⟨_, rfl, by show 2 ≤ 1000; decide, fun r1 U1 u1 => ⟨by show 2 ≤ 1000; decide, fun r2 U2 u2 => ⟨by show 1 ≤ 1000; decide, fun r3 U3 u3 => ⟨by show 4 ≤ 1000; decide, fun r4 U4 u4 => ⟨by show 0 ≤ 1000; decide, fun r5 U5 u5 => ⟨by show 1 ≤ 1000; decide, fun r6 U6 u6 => ⟨by show 2 ≤ 1000; decide, fun r7 U7 u7 => ⟨by show 2 ≤ 1000; decide, fun r8 U8 u8 => ⟨by show 2 ≤ 1000; decide, fun r9 U9 u9 => ⟨by show 9 ≤ 1000; decide, fun rl UL ul => ?_⟩⟩⟩⟩⟩⟩⟩⟩⟩⟩
                have s8L : Same J8 UL := (u1.2.2.trans (u2.2.2.trans (u3.2.2.trans (u4.2.2.trans (u5.2.2.trans (u6.2.2.trans (u7.2.2.trans (u8.2.2.trans (u9.2.2.trans ul.2.2)))))))))
                have kpL := kp8.same s8L
                have rlp : rl ≠ p := well_ne (kp8.same ((((((((u1.2.2.trans u2.2.2).trans u3.2.2).trans u4.2.2).trans u5.2.2).trans u6.2.2).trans u7.2.2).trans u8.2.2).trans u9.2.2)) ul.1
                have rg : ∀ x ∈ [V.ref r1, V.ref r2, V.ref r3, V.ref r4, V.ref r5, V.ref r6, V.ref r7, V.ref r8, V.ref r9], ∃ (rq : Addr) (rs : List Nat), x = .ref rq ∧ SqT K UL rq ((ofN rs).map V.int) ∧ (∀ i ∈ rs, i < 5) ∧ rs.length ≤ 4 := fun x hx => by
                  simp only [List.mem_cons, List.not_mem_nil, or_false] at hx
                  rcases hx with rfl | rfl | rfl | rfl | rfl | rfl | rfl | rfl | rfl
                  · exact ⟨r1, [0, 1], rfl, SqT.of ((u2.2.2.trans (u3.2.2.trans (u4.2.2.trans (u5.2.2.trans (u6.2.2.trans (u7.2.2.trans (u8.2.2.trans (u9.2.2.trans ul.2.2)))))))) _ _ u1.2.1), by decide, by decide⟩
                  · exact ⟨r2, [1, 0], rfl, SqT.of ((u3.2.2.trans (u4.2.2.trans (u5.2.2.trans (u6.2.2.trans (u7.2.2.trans (u8.2.2.trans (u9.2.2.trans ul.2.2))))))) _ _ u2.2.1), by decide, by decide⟩
                  · exact ⟨r3, [2], rfl, SqT.of ((u4.2.2.trans (u5.2.2.trans (u6.2.2.trans (u7.2.2.trans (u8.2.2.trans (u9.2.2.trans ul.2.2)))))) _ _ u3.2.1), by decide, by decide⟩
                  · exact ⟨r4, [0, 3, 0, 3], rfl, SqT.of ((u5.2.2.trans (u6.2.2.trans (u7.2.2.trans (u8.2.2.trans (u9.2.2.trans ul.2.2))))) _ _ u4.2.1), by decide, by decide⟩
                  · exact ⟨r5, [], rfl, SqT.of ((u6.2.2.trans (u7.2.2.trans (u8.2.2.trans (u9.2.2.trans ul.2.2)))) _ _ u5.2.1), by decide, by decide⟩
                  · exact ⟨r6, [0], rfl, SqT.of ((u7.2.2.trans (u8.2.2.trans (u9.2.2.trans ul.2.2))) _ _ u6.2.1), by decide, by decide⟩
                  · exact ⟨r7, [2, 2], rfl, SqT.of ((u8.2.2.trans (u9.2.2.trans ul.2.2)) _ _ u7.2.1), by decide, by decide⟩
                  · exact ⟨r8, [4, 4], rfl, SqT.of ((u9.2.2.trans ul.2.2) _ _ u8.2.1), by decide, by decide⟩
                  · exact ⟨r9, [3, 0], rfl, SqT.of (ul.2.2 _ _ u9.2.1), by decide, by decide⟩
                refine ⟨p, rl, _, rfl, kpL, ul.2.1, rlp, by show 0 < 9; decide, by show 9 ≤ 1000; decide, fun ax x J9 ex kp9 c9 => ?_⟩
                obtain ⟨RG, rs, rfl, hRGL, hrs, lrs⟩ := rg x (List.mem_of_getElem? ex)
                have c89 := (But.same s8L).trans c9
                have hRG := seqT_nl (but_nl c9 kpL) hRGL
                have hWY9 := seqT_nl (but_nl c89 kp8) hWY
                have hPT9 := seqT_nl (but_nl c89 kp8) hPT8
                have c09 := c08.trans c89
                clear rg c89 hRGL hWY hPT8 kp8 c08 s8L kpL rlp c9 u1 u2 u3 u4 u5 u6 u7 u8 u9 ul ex
                refine ⟨_, rfl, p, _, rfl, kp9, by decide, by decide, fun e J10 e0 e2 kp10 c10 => ⟨rfl, _, rfl, ?_⟩⟩
                have hRG10 := seqT_nl (but_nl c10 kp9) hRG
                have hWY10 := seqT_nl (but_nl c10 kp9) hWY9
                have hPT10 := seqT_nl (but_nl c10 kp9) hPT9
                have c010 := c09.trans c10
                apply withA (fun W' H' => ∃ ws : List Nat, SqT K H' W' ((ofN ws).map V.int) ∧ (∀ i ∈ ws, i < 5) ∧ ws.length ≤ 4 ∧ SqT K H' RG ((ofN rs).map V.int) ∧ SqT K H' PT (xs.map V.int) ∧ Well H' p ∧ But p Hi H')
                · intro kR
                  by_cases he : e = 0
                  · refine iteDY (c := V.int e = V.int 0) (by rw [he]) ?_
                    refine ⟨by show 0 ≤ 1000; decide, fun W' J11 k11 => ?_⟩
                    exact kR W' J11 ⟨[], SqT.of k11.2.1, (fun _ h => by cases h), by decide, Same.seqT k11.2.2 hRG10, Same.seqT k11.2.2 hPT10, kp10.same k11.2.2, c010.trans (But.same k11.2.2)⟩
                  · refine iteDN (c := V.int e = V.int 0) (fun q => he (V.int.inj q)) ?_
                    exact kR WY J10 ⟨ws, hWY10, hw, lw3, hRG10, hPT10, kp10, c010⟩
                · rintro W' J11 ⟨ws', hW, hw', lw', hR, hT, kp11, c011⟩
                  clear hWY10 hWY9 hw lw3 lw hPT10 hPT9 hRG10 hRG c010 c09 c10 kp10 kp9
                  have hBL := c011 _ _ hBLi BLp
                  have dA := dp_nlAll (but_nl c011 hpi) _ nA dAi
                  have bd1 : ∀ n t, n ≤ ws'.length → stW as ws' z xs n = some t → Bt t.2 := fun n t hn e => bn_bt (st_bn aok (by omega) lxs hxs n t e).1 (by omega)
                  have bd2 : ∀ t, stW as ws' z xs ws'.length = some t → t.2.length = m ∧ ∀ n u, n ≤ rs.length → stW as rs t.1 t.2 n = some u → Bt u.2 := fun t e => by
                    obtain ⟨q1, q2⟩ := st_bn aok (by omega) lxs hxs _ t e
                    exact ⟨q2, fun n u hn e2 => bn_bt (st_bn aok (by omega) q2 q1 n u e2).1 (by omega)⟩
                  have aok1 : ∀ a ∈ as, ArmOk m a := fun a ha => (aok a ha).1
                  have hwl : ∀ i ∈ ws', i < as.length := fun i hi => by rw [la5]; exact hw' i hi
                  have hrl : ∀ i ∈ rs, i < as.length := fun i hi => by rw [la5]; exact hrs i hi
                  refine ⟨_, rfl, _, rfl, _, rfl, PT, _, rfl, .inr hT, fun LP nLP => ⟨by show 2 ≤ 1000; decide, fun SL J12 k12 => ?_⟩⟩
                  have sLP := same_new (o := .lst (xs.map V.int)) nLP
                  have hLP12 : J12 LP = some (.lst (xs.map V.int)) := k12.2.2 _ _ upd_same
                  have s12 := sLP.trans k12.2.2
                  refine ⟨_, rfl, BL, W', .ref SL, m, ys, as, some (z, xs), ws', rfl, SqL.of (s12 _ _ hBL), dp_sameAll s12 _ dA, aok1, by omega, ⟨SL, LP, rfl, SqL.of k12.2.1, SqL.of hLP12⟩, Same.seqT s12 hW, hwl, by omega, fun s e => by cases e; exact ⟨lxs, bd1⟩, fun zb J13 s13 hzb => ?_⟩
                  have hzb : StL K J13 zb (stW as ws' z xs ws'.length) := hzb
                  have s113 := s12.trans s13
                  clear hLP12 sLP k12 nLP s12 s13
                  generalize hdue : dueB as (z, xs) ws' rs = due
                  apply withB (fun b H' => b = due ∧ Same J13 H')
                  · intro kR
                    refine ⟨_, rfl, by show 0 ≤ 1000; decide, fun t0 J14 k14 => ⟨fD (ofN rs), .tuple [], Pg.dp_ints (Same.seqT (s113.trans k14.2.2) hR), .tup (SqT.of k14.2.1) .nil, Pg.plain_f _, pl_nilT, dp_fl _, ?_⟩⟩
                    rw [eqv_ring]
                    cases hre : rs.isEmpty with
                    | false =>
                      refine ⟨_, rfl, ?_⟩
                      refine ⟨_, rfl, by show 0 ≤ 1000; decide, fun t1 J15 k15 => ?_⟩
                      have s15 := k14.2.2.trans k15.2.2
                      cases eo : stW as ws' z xs ws'.length with
                      | some t =>
                        rw [eo] at hzb
                        have hzb0 := hzb
                        obtain ⟨va, vb, ezb, hva, hvb⟩ := hzb
                        refine ⟨va, t1, _, ezb, rfl, s15.seq hva, SqL.of k15.2.1, _, rfl, ?_⟩
                        obtain ⟨q1, q2⟩ := bd2 t eo
                        have s115 := s113.trans s15
                        refine ⟨_, rfl, _, rfl, _, rfl, BL, RG, zb, m, ys, as, some t, rs, rfl, SqL.of (s115 _ _ hBL), dp_sameAll s115 _ dA, aok1, by omega, stl_same s15 hzb0, Same.seqT s115 hR, hrl, by omega, fun s e => by cases e; exact ⟨q1, q2⟩, fun zc J16 s16 hzc => ?_⟩
                        have hzc : StL K J16 zc (stW as rs t.1 t.2 rs.length) := hzc
                        refine ⟨_, rfl, K5.dS (stW as rs t.1 t.2 rs.length), K5.dS (some t), stl_dp hzc, stl_dp (stl_same (s15.trans s16) hzb0), plain_dS _, plain_dS _, depth_dS _, ?_⟩
                        have eb : dueB as (z, xs) ws' rs = PyData.eqv (K5.dS (stW as rs t.1 t.2 rs.length)) (K5.dS (some t)) := by
                          unfold dueB
                          show (!rs.isEmpty && ((stW as ws' z xs ws'.length).isSome && PyData.eqv (K5.dS ((stW as ws' z xs ws'.length).bind fun t => stW as rs t.1 t.2 rs.length)) (K5.dS (stW as ws' z xs ws'.length)))) = _
                          rw [eo, hre]
                          rfl
                        rw [← eb]
                        generalize hbb : dueB as (z, xs) ws' rs = bb
                        exact kR bb J16 ⟨hbb.symm.trans hdue, s15.trans s16⟩
                      | none =>
                        rw [eo] at hzb
                        obtain ⟨va, ezb, hva⟩ := hzb
                        refine ⟨va, t1, [], ezb, rfl, s15.seq hva, SqL.of k15.2.1, _, rfl, ?_⟩
                        have eb : due = false := by
                          rw [← hdue]
                          unfold dueB
                          show (!rs.isEmpty && ((stW as ws' z xs ws'.length).isSome && _)) = false
                          rw [eo]
                          simp
                        exact iteF (kR false J15 ⟨eb.symm, s15⟩)
                    | true =>
                      have eb : due = false := by
                        rw [← hdue]
                        unfold dueB
                        rw [hre]
                        rfl
                      refine ⟨_, rfl, ?_⟩
                      exact iteF (kR false J14 ⟨eb.symm, k14.2.2⟩)
                  · rintro b J14 ⟨rfl, s14⟩
                    have s114 := s113.trans s14
                    have ebE : b = endB as (z, xs) ws' rs := hdue.symm.trans (due_is _ _ _ _)
                    have hlen : ((z, xs) : Str × List Int).2.length = (nms m).length := lxs.trans lnm.symm
                    refine ⟨_, rfl, _, rfl, _, rfl, by show 4 ≤ 1000; decide, fun AK J15 k15 => ?_⟩
                    have s115 := s114.trans k15.2.2
                    have hAK := k15.2.1
                    refine ⟨_, rfl, _, rfl, _, rfl, by show 2 ≤ 1000; decide, fun C1 J16 k16 => ?_⟩
                    have s116 := s115.trans k16.2.2
                    have good : ∀ {Hx : Hp} {c : Addr}, Same J11 Hx → Hx c = some (.tup [.ref W', .ref RG]) → Dp K Hx (.ref c) (.tuple [fD (ofN ws'), fD (ofN rs)]) := fun sx hc => .tup (SqT.of hc) (.cons (Pg.dp_ints (Same.seqT sx hW)) (.cons (Pg.dp_ints (Same.seqT sx hR)) .nil))
                    have hCD : CertD as (z, xs) (.tuple [fD (ofN ws'), fD (ofN rs)]) b := .inr (.inr ⟨ws', rs, rfl, by omega, by omega, hwl, hrl, fun n t hn e => bd1 n t hn e, fun t e => ⟨(bd2 t e).1.trans lxs.symm, (bd2 t e).2⟩, ebE⟩)
                    refine ⟨AK, .ref C1, .ref PT, _, b, (z, xs), nms m, [], as, rfl, okP, SqT.of (k16.2.2 _ _ hAK), Pg.dp_ints (Same.seqT s116 hT), hz, hlen, good s116 k16.2.1, hCD, fun J17 s17 => ⟨_, rfl, _, rfl, by show 2 ≤ 1000; decide, fun C2 J18 k18 => ?_⟩⟩
                    have s1518 := (k16.2.2.trans s17).trans k18.2.2
                    have s118 := s115.trans s1518
                    refine ⟨_, rfl, rfl, AK, .ref C2, .ref PT, _, b, (z, xs), nms m, [], as, rfl, okP, SqT.of (s1518 _ _ hAK), Pg.dp_ints (Same.seqT s118 hT), hz, hlen, good s118 k18.2.1, hCD, fun J19 s19 => ⟨by show 2 ≤ 1000; decide, fun TL J20 k20 => ?_⟩⟩
                    have two : ∀ {Hx : Hp} {l : Addr}, Hx l = some (.lst [.bl b, .bl b]) → Dp K Hx (.ref l) (.list [.bool b, .bool b]) := fun h => .lst (SqL.of h) (.cons (.bl b) (.cons (.bl b) .nil))
                    obtain ⟨q1, q2, q3⟩ := sh_bools b
                    refine ⟨_, rfl, _, _, rfl, .inl (two k20.2.1), q1, q2, q3, _, rfl, _, rfl, by show 2 ≤ 1000; decide, fun L2 J21 k21 => ⟨_, _, rfl, .inl (two k21.2.1), q1, q2, q3, ?_⟩⟩
                    have s1821 := (s19.trans k20.2.2).trans k21.2.2
                    have s121 := s118.trans s1821
                    have hAK21 := s1821 _ _ (s1518 _ _ hAK)
                    refine ⟨rfl, _, rfl, ?_⟩
                    rw [show ∀ z : V, (!decide (z = z)) = false from fun z => by simp]
                    refine iteF ?_
                    have hAKf : ∀ {Hx : Hp}, Same J21 Hx → SqT K Hx AK [.str "endless", .str (textS (nms m) [] as), .str z, .ref PT] := fun sx => SqT.of (sx _ _ hAK21)
                    refine ⟨_, rfl, _, rfl, by show 1 ≤ 1000; decide, fun F5 J22 k22 => ?_⟩
                    have s122 := s121.trans k22.2.2
                    have lW : (ofN ws').length = ws'.length := by unfold Pg.ofN; rw [List.length_map]
                    have lR : (ofN rs).length = rs.length := by unfold Pg.ofN; rw [List.length_map]
                    apply withA (fun WB H' => SqT K H' WB ((ofN ws' ++ [5] : List Int).map V.int) ∧ Same J21 H')
                    · intro kB
                      refine ⟨W', F5, _, [V.int 5], rfl, rfl, Same.seqT s122 hW, SqT.of k22.2.1, ?_, ?_, (fun _ e => by cases e), ?_⟩
                      · rw [List.length_map, lW]
                        exact small1000 (by omega)
                      rotate_left
                      · intro hx _ q hq
                        have hw : SqT K (upd J22 q (.tup ((ofN ws').map V.int ++ [V.int 5]))) q ((ofN ws' ++ [5] : List Int).map V.int) := by
                          rw [← ofN_snoc]
                          exact SqT.of upd_same
                        have hs := k22.2.2.trans (same_new (o := .tup ((ofN ws').map V.int ++ [V.int 5])) hq)
                        generalize upd J22 q (.tup ((ofN ws').map V.int ++ [V.int 5])) = Jx at hw hs ⊢
                        exact kB q Jx ⟨hw, hs⟩
                      · intro e
                        exact kB F5 J22 ⟨by rw [← ofN_snoc, e]; exact SqT.of k22.2.1, k22.2.2⟩
                    · rintro WB J23 ⟨hWB, s23⟩
                      refine ⟨_, rfl, by show 2 ≤ 1000; decide, fun CB J24 k24 => ?_⟩
                      have s24 := s23.trans k24.2.2
                      refine ⟨AK, .ref CB, .ref PT, _, false, (z, xs), nms m, [], as, rfl, okP, hAKf s24, Pg.dp_ints (Same.seqT (s121.trans s24) hT), hz, hlen, .tup (SqT.of k24.2.1) (.cons (Pg.dp_ints (Same.seqT k24.2.2 hWB)) (.cons (Pg.dp_ints (Same.seqT (s121.trans s24) hR)) .nil)), .inr (.inl ⟨ofN ws' ++ [5], ofN rs, rfl, by rw [List.length_append, lW]; show _ + 1 ≤ 900; omega, by omega, bad_five ws' rs la5, rfl⟩), fun J25 s25 => ⟨_, rfl, iteF ⟨_, rfl, _, rfl, _, rfl, by show 2 ≤ 1000; decide, fun CC J26 k26 => ?_⟩⟩⟩
                      have s26 := (s24.trans s25).trans k26.2.2
                      refine ⟨AK, .ref CC, .ref PT, .list [fD (ofN ws'), fD (ofN rs)], false, (z, xs), nms m, [], as, rfl, okP, hAKf s26, Pg.dp_ints (Same.seqT (s121.trans s26) hT), hz, hlen, .lst (SqL.of k26.2.1) (.cons (Pg.dp_ints (Same.seqT (s121.trans s26) hW)) (.cons (Pg.dp_ints (Same.seqT (s121.trans s26) hR)) .nil)), .inl ⟨⟨_, rfl⟩, rfl⟩, fun J27 s27 => ⟨_, rfl, iteF ?_⟩⟩
                      have s127 := (s121.trans s26).trans s27
                      exact ⟨_, _, _, _, _, _, _, _, _, _, rfl, kp11.same s127, c011.trans (But.same s127)⟩
          · rintro σ J1 ⟨y1, y7, y8, y9, y10, y11, y12, y13, y14, y15, rfl, kp1, c1⟩
            exact ⟨_, _, _, _, _, _, _, _, _, _, _, _, _, _, _, rfl, kp1, b0i.trans c1⟩
    · rintro σ H1 ⟨x1, x2, x3, x4, x5, x6, x7, x8, x9, x10, x11, x12, x13, x14, x15, rfl, hp1, b1⟩
      exact k H1 b1
end
end K5
set_option Elab.async false
set_option linter.all false
set_option maxRecDepth 100000
set_option maxHeartbeats 4000000
namespace K5
open PySem PySem.Spec PyProof.Rows L2 Gd Rl
open Pg (Mo)
abbrev sLaw : Stmt := top 95
structure Bl3 (mg : Str → Option Value) : Prop where
  max : mg "max" = none
  min : mg "min" = none
def spLaw (K : PySem.W.Frag) : Sp := fun vs H Q _ => ∃ (a : Addr) (ns : List Int), vs = [.ref a] ∧ SqL K H a (ns.map V.int) ∧ ns.length ≤ 63 ∧ ∀ H', Q (.bl true) H'
abbrev nLaw : List Str := ["_law_script", "_law_spot"]
theorem scLaw : FnScope nLaw ["_law_script"] (defScope sLaw) := ⟨rfl, rfl, rfl, by decide +kernel, rfl, by decide +kernel, by decide +kernel⟩
section
variable {P : Program} {w : World} {K : PySem.W.Frag} {mg : Str → Option Value} {base : Heap} {f : Addr} {fd : FuncData}
theorem ok_law {fG fR : Addr} {dG dR : FuncData} (F : FnP K "law" sLaw f fd) (TB : Bl mg) (M0 : Mo mg) (R : Br mg) (U : Bl3 mg)
    (FG : FnP K "_law_well" sWell fG dG) (gG : mg "_law_well" = some (.ref fG)) (FR : FnP K "_law_right" sRi fR dR) (gR : mg "_law_right" = some (.ref fR)) (GR : FnG P w K mg base 11 fR dR ["_law_well_here"] spRi) : FnG P w K mg base 12 f fd ["_law_script"] (spLaw K) := by
  have GG : FnOk P w K mg base CX0 1 fG dG ["_law_script", "_law_spot"] (spWell K) := ok_well FG TB
  have bG : Binds K dG ["_law_script", "_law_spot"] [] := FG.bindsN fun _ _ _ _ _ _ us hl => match us, hl with | [_, _], _ => rfl
  have bR : Binds K dR ["_law_well_here"] [] := FR.bindsN fun _ _ _ _ _ _ us hl => match us, hl with | [_], _ => rfl
  refine okG F scLaw (fun vs H Q E h => ?_) (fun cdv A outer s H vs Q E hgd hr h => ?_)
  · obtain ⟨a, ns, rfl, _⟩ := h
    rfl
  · obtain ⟨a, ns, rfl, hS, hn, k1⟩ := h
    have hr1 := hr.mono (show 1 ≤ 11 by decide)
    refine ⟨_, PSs.nox <| pss_one (ps_ret (pe_callB (cr_all rfl) (by rfl) M0.all (by decide +kernel) (pa_cons (pe_lc (own := [("_law_spot", 1)]) (g := gName 1) (tt := tYes) rfl scLaw.nd
          (pi_range1 (by rfl) R.range (pa_cons (pe_callB (call_max2 rfl) (by rfl) U.max (by decide +kernel) (pa_cons pe_int (pa_cons (pe_callB (call_min2 rfl) (by rfl) U.min (by decide +kernel) (pa_cons (pe_callB call_len (by rfl) M0.len PySem.boot_len (pa_cons (pv 0) pa_nil)) (pa_cons pe_int pa_nil))) pa_nil))) pa_nil))
          (blkOk_by (N := nLaw) (sc := defScope sLaw) (by decide +kernel)) (fun _ _ _ _ _ => pg_name (i := 1) scLaw.nd rfl (Or.inl rfl)) (fun _ _ _ _ _ => pts_nil)
          (fun _ _ _ _ _ => pe_callG GR hgd hr (by rfl) gR FR.kp bR (pa_cons (pe_call GG hr1 (by rfl) gG FG.kp bG .nil pass0 (pa_cons (pv 0) (pa_cons (pv 1) pa_nil))) pa_nil))) pa_nil))), ?_⟩
    refine ⟨_, rfl, _, (ns.map V.int).length, rfl, .inl ⟨_, hS, rfl⟩, _, _, rfl, _, _, rfl, ?_⟩
    generalize hM : (if (if (3 : Int) < ((ns.map V.int).length : Int) then (3 : Int) else ((ns.map V.int).length : Int)) > 2 then (if (3 : Int) < ((ns.map V.int).length : Int) then (3 : Int) else ((ns.map V.int).length : Int)) else 2) = M
    have m0 : 0 ≤ M ∧ M ≤ 4 := by
      rw [← hM]
      split <;> split <;> omega
    refine ⟨M, rfl, by omega, by omega, fun D hD => lc_range (lo := 0) (n := M.toNat) (fun i H' => Same H H' ∧ H' D = some (.lst (List.replicate i (V.bl true)))) ⟨same_new hD, upd_same⟩ ?_ ?_⟩
    · rintro i H' hi ⟨sx, hd⟩
      refine ⟨rfl, ?_⟩
      refine ⟨_, rfl, _, rfl, a, ns, i, (by rw [Int.zero_add]; rfl), sx.seq hS, hn, by omega, fun p Hp sp np pp => ?_⟩
      refine ⟨p, rfl, pp, fun Hq bt => ?_⟩
      have hd2 : Hq D = some (.lst (List.replicate i (V.bl true))) := bt D _ (sp _ _ hd) (ne_of_none hd np)
      refine ⟨_, hd2, (by rw [List.length_replicate]; exact small1000 (by omega)), fun b u e => ?_, ?_⟩
      · rw [upd_ne (ne_of_none e hD)]
        exact bt b u (sp _ _ (sx _ _ e)) (ne_of_none (sx _ _ e) np)
      · rw [upd_same, List.replicate_succ']
    · rintro H' ⟨sx, hd⟩
      have hd2 : H' D = some (.lst ((List.replicate M.toNat true).map V.bl)) := by
        rw [List.map_replicate]
        exact hd
      refine ⟨D, _, rfl, SqL.of hd2, ?_⟩
      rw [show (List.replicate M.toNat true).all id = true by simp]
      exact k1 H'
end
end K5
set_option Elab.async false
set_option linter.all false
set_option maxRecDepth 100000
set_option maxHeartbeats 0
namespace K5
open PySem PySem.Spec PyProof.Rows L2 Gd Rl
theorem facts {w : World} {K : PySem.W.Frag} {h : Heap} {mg : Str → Option Value} {f : Addr} (X : K.In h) (G : h.Ns mainGlobals mg) (hfa : mg ("law" : Str) = some (.ref f)) (cc : SaysK w K) :
    ∃ fd : FuncData, (∀ (s : Shared) (v : Value), BindsTo s fd ⟨[v], []⟩ [("_law_script", v)]) ∧ ∀ base : Heap, K.In base → base.Ns mainGlobals mg → (∀ p ∈ tf, LamX.TabB base mg (He.cT K p).1 (He.cT K p).2) → FnG (PySem.Challenge.rw_fallranks_k45_endless_runs_judged).prog w K mg base 12 f fd ["_law_script"] (spLaw K) := by
  have c : He.SaysD fa fn K := congrArg (fun z : AlK => z.1) cc
  have c2 : exB K = true := congrArg (fun z : AlK => z.2.1) cc
  have c3 : gl.map (fun g => Hx.seenF K (g.1 K)) = gl.map fun g => Hx.saidF g.2.1 g.2.2.1 g.2.2.2 := congrArg (fun z : AlK => z.2.2.1) cc
  have c4 : ts.map (fun t => He.dicW K (t.1 K)) = ts.map fun t => some (He.keysIn w.params t.2) := congrArg (fun z : AlK => z.2.2.2) cc
  obtain ⟨x1, c2⟩ := Bool.and_eq_true_iff.mp c2
  obtain ⟨x2, c2⟩ := Bool.and_eq_true_iff.mp c2
  obtain ⟨x3, c2⟩ := Bool.and_eq_true_iff.mp c2
  obtain ⟨x4, x5⟩ := Bool.and_eq_true_iff.mp c2
  have inD : ∀ e ∈ dv, PySem.W.nsIn K (He.ga K e.1) e.2.1 = some (some (.ref (He.ga K e.2.2))) := fun e he => He.eqO_ok (List.all_eq_true.mp x5 e he)
  have kd : ∀ (i : Nat) (t : He.Tab), ts[i]? = some t → ∃ es n, KDict K w (t.1 K) es n := fun i t e => by
    have e2 := congrArg (fun l => l[i]?) c4
    simp only [List.getElem?_map, e, Option.map_some] at e2
    exact He.dicW_ok (Option.some.inj e2)
  have prp : ∀ f ∈ (["names", "branches", "places"] : List Str), PropOf K (cP K) f (He.ma K (cP K) f) (gAt f K) := fun f hf => Hx.propB_ok (List.all_eq_true.mp x1 f hf)
  have get : ∀ (i : Nat) (g : (PySem.W.Frag → Addr) × Str × Str × Stmt), gl[i]? = some g → ∃ z, FunD K g.2.1 g.2.2.1 (defArgs g.2.2.2) (defBody g.2.2.2) (defScope g.2.2.2) [] [] (g.1 K) z := fun i g e => by
    have e2 := congrArg (fun l => l[i]?) c3
    simp only [List.getElem?_map, e, Option.map_some, Option.some.injEq] at e2
    exact Hx.funF e2 (List.all_eq_true.mp x4 g (List.mem_of_getElem? e))
  have free : ∀ (i : Nat) (x : Str), fa[i]? = some (.free x) → mg x = none := fun i x e => He.free_ok X G (c.fact i (f := .free x) e)
  have glo : ∀ (i : Nat) (x : Str), fa[i]? = some (.glo x) → mg x = some (.ref (He.ga K x)) := fun i x e => He.glo_ok X G (c.fact i (f := .glo x) e)
  have noat : ∀ (i : Nat) (x : Str), fa[i]? = some (.noat "Program" x) → NoAttr K (cP K) x := fun i x e => He.noat_ok (c.fact i (f := .noat "Program" x) e)
  have dun : ∀ (i : Nat) (x : Str), fa[i]? = some (.meth "Program" x) → Ow.Dun K (cP K) x (He.ma K (cP K) x) := fun i x e => by
    have z := c.fact i (f := .meth "Program" x) e
    obtain ⟨z1, z⟩ := Bool.and_eq_true_iff.mp z
    obtain ⟨z2, z3⟩ := Bool.and_eq_true_iff.mp z
    exact ⟨He.eqO_ok z1, z2⟩
  obtain ⟨d0, F0⟩ := c.def_ 0 (d := dd "is_integer" Pg.sInt) rfl
  obtain ⟨d1, F1⟩ := c.def_ 1 (d := dd "is_name" Pg.sName) rfl
  obtain ⟨d2, F2⟩ := c.def_ 2 (d := dd "are_integers" Pg.sInts) rfl
  obtain ⟨d3, F3⟩ := c.def_ 3 (d := dd "is_form" Pg.sForm) rfl
  obtain ⟨d4, F4⟩ := c.def_ 4 (d := dd "are_forms" Pg.sForms) rfl
  obtain ⟨d5, F5⟩ := c.def_ 5 (d := dd "is_numeral" Pg.sNu) rfl
  obtain ⟨d6, F6⟩ := c.def_ 6 (d := dd "_check_names" Pg.sCN) rfl
  obtain ⟨d7, F7⟩ := c.def_ 7 (d := dd "_check_sayings" Pg.sCS) rfl
  obtain ⟨d8, F8⟩ := c.def_ 8 (d := dd "_check_branches" Pg.sCB) rfl
  obtain ⟨d9, F9⟩ := c.def_ 9 (d := dd "_is_saying" Pg.sSay) rfl
  obtain ⟨d10, F10⟩ := c.def_ 10 (d := dd "_is_branch" Pg.sBr) rfl
  obtain ⟨d11, F11⟩ := c.def_ 11 (d := dd "_places_of" Pg.sPl) rfl
  obtain ⟨d12, F12⟩ := c.def_ 12 (d := dd "_text_of" Pg.sTx) rfl
  obtain ⟨d13, F13⟩ := c.def_ 13 (d := dd "_words_of" Pg.sWd) rfl
  obtain ⟨d14, F14⟩ := c.def_ 14 (d := dd "_parts_of" Pg.sPa) rfl
  obtain ⟨d15, F15⟩ := c.def_ 15 (d := dd "_form_of" Pg.sFo) rfl
  obtain ⟨d16, F16⟩ := c.def_ 16 (d := dd "is_index" Pg.sIx) rfl
  obtain ⟨d17, F17⟩ := c.def_ 17 (d := dd "weighed" Pg.sWei) rfl
  obtain ⟨d18, F18⟩ := c.def_ 18 (d := dd "value_at" Pg.sVal) rfl
  obtain ⟨d19, F19⟩ := c.def_ 19 (d := dd "fits" Pg.sFi) rfl
  obtain ⟨d20, F20⟩ := c.def_ 20 (d := dd "state_behind" Pg.sBe) rfl
  obtain ⟨d21, F21⟩ := c.def_ 21 (d := dd "_is_tuple" Pg.sIt) rfl
  obtain ⟨d22, F22⟩ := c.def_ 22 (d := dd "_is_state" Pg.sIs) rfl
  obtain ⟨d23, F23⟩ := c.def_ 23 (d := dd "_are_branches" Pg.sAb) rfl
  obtain ⟨d24, F24⟩ := c.def_ 24 (d := dd "_check_endless" Pg.sCe) rfl
  obtain ⟨d25, F25⟩ := c.def_ 25 (d := dd "_state_after" Pg.sSa) rfl
  obtain ⟨d26, F26⟩ := c.def_ 26 (d := dd "accepts" Pg.sAc) rfl
  obtain ⟨d27, F27⟩ := c.def_ 27 (d := dd "_law_words" Pg.sLw) rfl
  obtain ⟨d28, F28⟩ := c.def_ 28 (d := dd "_law_text" Pg.sTxt) rfl
  obtain ⟨d29, F29⟩ := c.def_ 29 (d := dd "_law_well" sWell) rfl
  obtain ⟨d30, F30⟩ := c.def_ 30 (d := dd "_law_draw" sDraw) rfl
  obtain ⟨d31, F31⟩ := c.def_ 31 (d := dd "_law_pick" sPick) rfl
  obtain ⟨d32, F32⟩ := c.def_ 32 (d := dd "_law_small" sSm) rfl
  obtain ⟨d33, F33⟩ := c.def_ 33 (d := dd "_law_shape" sSp) rfl
  obtain ⟨d34, F34⟩ := c.def_ 34 (d := dd "_law_turns" sTu) rfl
  obtain ⟨d35, F35⟩ := c.def_ 35 (d := dd "_law_step" sSt) rfl
  obtain ⟨d36, F36⟩ := c.def_ 36 (d := dd "_law_behind_all" sBa) rfl
  obtain ⟨d37, F37⟩ := c.def_ 37 (d := dd "_law_right" sRi) rfl
  obtain ⟨d38, F38⟩ := c.def_ 38 (d := dd "law" sLaw) rfl
  obtain ⟨d39, F39⟩ := c.def_ 39 (d := dm "__init__" "Program.__init__" Pg.sIni) rfl
  obtain ⟨d40, F40⟩ := c.def_ 40 (d := dm "__str__" "Program.__str__" Pg.sStr) rfl
  obtain ⟨d41, F41⟩ := c.def_ 41 (d := dm "__len__" "Program.__len__" Pg.sLen) rfl
  obtain ⟨e0, E0⟩ := get 0 (gAt "names", "names", "Program.names", Pg.sGn) rfl
  obtain ⟨e1, E1⟩ := get 1 (gAt "branches", "branches", "Program.branches", Pg.sGb) rfl
  obtain ⟨e2, E2⟩ := get 2 (gAt "places", "places", "Program.places", Pg.sGp) rfl
  obtain ⟨e3, E3⟩ := get 3 (rAt, "read", "Program.read", Pg.sRd) rfl
  obtain ⟨es0, nn0, KD0⟩ := kd 0 (fun K => He.ga K "CHECKS", ["ranks", "fewest", "none", "endless", "within"]) rfl
  have ee := hfa.symm.trans (glo 38 "law" rfl)
  cases ee
  have b := FunD.bindsA (ps := ["_law_script"]) F38 fun _ _ _ _ _ _ us hl => match us, hl with | [_], _ => rfl
  have M0 : Pg.Mo mg := ⟨(free 44 "isinstance" rfl), (free 42 "int" rfl), (free 45 "bool" rfl), (free 46 "str" rfl), (free 47 "tuple" rfl), (free 40 "len" rfl), (free 48 "all" rfl), (free 49 "enumerate" rfl), (He.int_ok X G (c.fact 57 (f := .int "LONGEST_NAME" 8) rfl)), (He.str_ok X G (c.fact 64 (f := .str "LETTERS" Pg.letS) rfl)), (He.str_ok X G (c.fact 65 (f := .str "FIGURES" Pg.figS) rfl)), (He.int_ok X G (c.fact 58 (f := .int "MOST_NUMBER" 1000000) rfl)), (He.int_ok X G (c.fact 59 (f := .int "MOST_VARIABLES" 3) rfl)), (He.int_ok X G (c.fact 60 (f := .int "MOST_PLACES" 3) rfl)), (He.int_ok X G (c.fact 61 (f := .int "MOST_BRANCHES" 5) rfl)), (He.int_ok X G (c.fact 62 (f := .int "MOST_TESTS" 3) rfl)), (He.int_ok X G (c.fact 63 (f := .int "MOST_SAYINGS" 3) rfl))⟩
  have T1 : Bl mg := ⟨(free 40 "len" rfl), (free 41 "divmod" rfl), (free 42 "int" rfl), (free 43 "abs" rfl)⟩
  have gP : mg "Program" = some (.ref (cP K)) := glo 39 "Program" rfl
  have XT : Pg.Txt K mg (cP K) := ⟨He.cls_ok (c.fact 66 (f := .cls "Program") rfl), noat 67 "_names" rfl, noat 68 "_sayings" rfl, noat 69 "_branches" rfl, noat 70 "_places" rfl, noat 71 "_text" rfl, gP⟩
  have J : Pg.Js K mg _ _ _ _ _ _ _ _ := ⟨F0, F1, F3, F4, (glo 0 "is_integer" rfl), (glo 1 "is_name" rfl), (glo 3 "is_form" rfl), (glo 4 "are_forms" rfl), ⟨_, _, F2, (glo 2 "are_integers" rfl)⟩⟩
  have D : Pg.Defs K mg _ _ _ _ _ _ _ _ _ _ _ _ _ _ _ _ _ _ _ _ _ _ _ _ _ _ _ _ _ _ := ⟨J, F5, F6, F7, F8, F9, F10, F11, F12, F13, F14, F15, (glo 5 "is_numeral" rfl), (glo 6 "_check_names" rfl), (glo 7 "_check_sayings" rfl), (glo 8 "_check_branches" rfl), (glo 9 "_is_saying" rfl), (glo 10 "_is_branch" rfl), (glo 11 "_places_of" rfl), (glo 12 "_text_of" rfl), (glo 13 "_words_of" rfl), (glo 14 "_parts_of" rfl), (glo 15 "_form_of" rfl)⟩
  have M : Pg.Mkr K (cP K) _ _ _ _ := ⟨He.mkr_ok (c.fact 74 (f := .mkr "Program") rfl), F39, F40, dun 72 "__str__" rfl⟩
  have Z : Pg.Rdr K (cP K) _ _ _ _ := ⟨Hx.readB_ok x3, Hx.cmB_ok x2, E3⟩
  have U3 : Bl3 mg := ⟨(free 52 "max" rfl), (free 53 "min" rfl)⟩
  have Rg : Br mg := ⟨(free 50 "range" rfl), (free 54 "sum" rfl)⟩
  have UL : BlL mg := ⟨(free 56 "list" rfl)⟩
  have MW : Pg.MoW mg := ⟨(free 54 "sum" rfl), (free 55 "zip" rfl)⟩
  have CK : Pg.Chk K mg (cP K) _ _ _ _ _ _ _ _ _ _ _ _ _ _ _ _ _ _ _ _ _ _ _ _ _ := ⟨XT, MW, F16, (glo 16 "is_index" rfl), F2, (glo 2 "are_integers" rfl), F0, (glo 0 "is_integer" rfl), F18, (glo 18 "value_at" rfl), F17, (glo 17 "weighed" rfl), F19, (glo 19 "fits" rfl), F20, (glo 20 "state_behind" rfl), (prp "names" (by decide +kernel)), E0, (prp "branches" (by decide +kernel)), E1, (prp "places" (by decide +kernel)), E2, F41, (dun 73 "__len__" rfl)⟩
  refine ⟨_, fun s v => b s [v] rfl, fun base kb nb2 _ => ?_⟩
  have GCe := Pg.ok_ce (P := (PySem.Challenge.rw_fallranks_k45_endless_runs_judged).prog) (w := w) (base := base) F24 M0 CK F21 (glo 21 "_is_tuple" rfl) F22 (glo 22 "_is_state" rfl) F23 (glo 23 "_are_branches" rfl) F25 (glo 25 "_state_after" rfl)
  have GA := Pg.ok_ac (P := (PySem.Challenge.rw_fallranks_k45_endless_runs_judged).prog) (w := w) (base := base) F26 M0 XT D M Z KD0 (glo 75 "CHECKS" rfl) (inD ("CHECKS", "endless", "_check_endless") (by simp [dv])) F24 GCe
  have GRI := ok_ri (P := (PySem.Challenge.rw_fallranks_k45_endless_runs_judged).prog) (w := w) (base := base) F37 T1 M0 Rg UL (free 51 "repr" rfl) F30 (glo 30 "_law_draw" rfl) F31 (glo 31 "_law_pick" rfl) F32 (glo 32 "_law_small" rfl) F33 (glo 33 "_law_shape" rfl) F34 (glo 34 "_law_turns" rfl) F28 (glo 28 "_law_text" rfl) F27 (glo 27 "_law_words" rfl) F35 (glo 35 "_law_step" rfl) F36 (glo 36 "_law_behind_all" rfl) F26 (glo 26 "accepts" rfl) GA
  exact ok_law F38 T1 M0 Rg U3 F29 (glo 29 "_law_well" rfl) F37 (glo 37 "_law_right" rfl) GRI
end K5
open PySem PySem.W PySem.Calls PyProof.Rows
theorem PySem.Challenge.cw_fallranks_k45_endless_runs_judged_holds : PySem.Challenge.rw_fallranks_k45_endless_runs_judged.Holds := by
  w_on; o_law
  refine HandSHeadRun.head_imp (r := OpenLaw.row PySem.Challenge.rw_fallranks_k45_endless_runs_judged) (q := view (OpenLaw.row PySem.Challenge.rw_fallranks_k45_endless_runs_judged).prog [0, 95]) (H := K5.hk) (ob := K5.ob) (M := 12000) (loose := K5.names) (d := HandSHeadRun.topDef (OpenLaw.row PySem.Challenge.rw_fallranks_k45_endless_runs_judged).prog 95) (kwd := []) K5.ob_eq
    K5.run (by kernel_rfl) (by kernel_rfl) (by kernel_rfl) (by rfl) (by first | assumption | decide +kernel) (by decide +kernel) ⟨rfl, rfl, rfl, rfl, rfl, by decide +kernel⟩ ?hw ?hc
  case hw => w_witness2
  case hc =>
    refine Gd.walk_GT (l := PySem.Challenge.rw_fallranks_k45_endless_runs_judged) (n := 63) (k := 12) (x := "_law_script") rfl (by decide) (by kernel_rfl) ⟨rfl, by decide, by decide⟩ ?F
    intro w mg fa h Y G hmg0
    obtain ⟨K, KX, c, tb⟩ := Y
    have hmg : mg ("law" : PySem.Str) = some (.ref fa) := by
      have e : (HandSHeadRun.topDef (OpenLaw.row PySem.Challenge.rw_fallranks_k45_endless_runs_judged).prog 95).name = ("law" : PySem.Str) := by kernel_rfl
      rw [← e]
      exact hmg0
    obtain ⟨fd, hb, hF⟩ := K5.facts (w := w) KX G hmg c
    refine ⟨K, fd, K5.spLaw K, K5.tf.map fun p => He.cT K p, KX, ⟨fun q hq => ?_, fun q hq => ?_, fun q hq => ?_⟩, hb, fun H a ns hl hbits hH hS => ⟨a, ns, rfl, hS, hl, fun _ => rfl⟩, fun base kb nb tB => hF base kb nb fun p hp => tB _ (List.mem_map.mpr ⟨p, hp, rfl⟩)⟩
    · obtain ⟨p, hp, rfl⟩ := List.mem_map.mp hq
      exact (tb p hp).2.2
    · obtain ⟨p, hp, rfl⟩ := List.mem_map.mp hq
      exact (tb p hp).2.1
    · obtain ⟨p, hp, rfl⟩ := List.mem_map.mp hq
      exact PySem.W.codeHd_of_K KX (tb p hp).1
