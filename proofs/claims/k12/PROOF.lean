import PyProof.Rows.All
import Wide.All
import OpenK.AllK
import Wide.FinOn
import HandS.ForMost
import HandS.ForExc
import HandS.Defaults
import KE.KExcSuper
import HandS.ExcInit
import HandS.HeadWalk
import KE.KExcIs
import HandS.ExcValue
import HandS.ExcField
import HandS.IsInst
import HandS.Walk
import HandS.CallLocal
import KE.KCallOwn
import OpenK.KOps
import HandS.Property
import HandS.ClsMeth
import HandS.HeadHook1
import HandS.HeadHook2
import HandS.EndBits
import HandS.Head0
import HandS.Head1
import HandS.Head2
import HandS.HeadEnd
import HandS.HeadHook3
import HandS.HeadHook4
import KE.GoesEnum
import HandS.TupAny
import HandS.Text
import KE.IntTextLaws
import HandS.FStr
import HandS.Star
import HandS.StrMore
import HandS.RaiseMore
import HandS.Wide
import HandS.MakeKwOnly
import HandS.Style
import HandS.TryOnly
import HandS.Lambda
import PyProof.InstEq
import HandS.SlotsOwn
import PyProof.EqKinds
import PySem.Challenge.RW_fallranks_k12_programs_compared
set_option Elab.async false
set_option linter.all false
set_option maxRecDepth 100000
set_option maxHeartbeats 4000000
namespace Gd
open PySem PySem.Spec PyProof.Rows L2
/-! defs that show lists: no list is being shown around them -/
/-- a promise kept where nothing is being shown -/
structure FnG (P : Program) (w : World) (K : PySem.W.Frag) (mg : Str → Option Value) (base : Heap) (k : Nat) (f : Addr) (fd : FuncData) (ps : List Str) (sp : Sp) : Prop where
  len : ∀ vs H Q E, sp vs H Q E → vs.length = ps.length
  run : ∀ (A : Around) (outer : List Env) (s : Shared) (H : Hp) (args : Args) (us : List Value) (vs : List V) (Q : VK) (E : XK), A.guards = some [] → Room k A → Env0 P w K mg base A outer s H → BindsTo s fd args (ps.zip us) → Vals vs us → sp vs H Q E →
    codeAny (model P w) A (.call (.ref f) args) (CR CX0 outer P w H s Q E) s
theorem deeper_guards {A : Around} {env : Env} (h : A.guards = some []) : (A.deeper env).guards = some [] := by
  first
    | exact h
    | simpa [Around.deeper] using h
section
variable {P : Program} {w : World} {K : PySem.W.Frag} {mg : Str → Option Value} {base : Heap} {x qual : Str} {params : Arguments} {body : List Stmt} {scope : Scope} {dvs : List V} {kws : List (Str × V)} {f : Addr} {fd : FuncData}
theorem okG {N ps : List Str} {k : Nat} {sp : Sp} (F : FunD K x qual params body scope dvs kws f fd) (S : FnScope N ps scope) (len : ∀ vs H Q E, sp vs H Q E → vs.length = ps.length)
    (hbody : ∀ (cdv : Value) (A : Around) (outer : List Env) (s : Shared) (H : Hp) (vs : List V) (Q : VK) (E : XK), (A.deeper (envOfC qual scope s.heap.objs.size f cdv)).guards = some [] → Room k (A.deeper (envOfC qual scope s.heap.objs.size f cdv)) → sp vs H Q E →
      ∃ t, PSs (cxOf CX0 P w K mg base N qual scope f cdv A outer s H E) body t ∧ t { nx := fun _ H' => Q .non H', rt := Q } (start N vs) H) : FnG P w K mg base (k + 1) f fd ps sp := by
  obtain ⟨oc, od, dV, kV, doc, pm, an, cdv, ct, osl, rfl, lk, hcd, _, _⟩ := F.ex
  refine ⟨len, fun A outer s H args us vs Q E hgd hr e0 hb r hsp => ?_⟩
  have hlv := len _ _ _ _ hsp
  have KX : K.In s.heap := e0.mod.kin.keeps fun b o e => (e0.bs b o e).1
  have lim : s.heap.NoLimit := e0.mod.nolimit.keeps fun b o e => (e0.bs b o e).1
  have hkd : ∀ y ∈ ps.zip us, scope.names.lookup y.1 = some .local ∨ (scope.names.lookup y.1 = some .cell ∧ ((cellsFrom (s.heap.objs.size + 1) scope.names []).lookup y.1).isSome = true) := fun ⟨n, v⟩ hy => by
    rcases S.par n (List.of_mem_zip hy).1 with q | q
    · exact .inl q
    · exact .inr ⟨q, PySem.W.cellsFrom_some _ _ _ (.inl q)⟩
  refine codeAny_call_function hr.depth (KX _ _ lk) rfl S.co S.gen rfl (PySem.W.codeRec_of KX hcd) (hb _ _ _ _ ?_)
  refine wpAny_newFunctionEnv_cells S.kind hkd fun env he s1 z => ?_
  subst he
  refine ⟨lim.keeps z.toInCall.keep, codeAny_func ?_⟩
  obtain ⟨t, ht, hq⟩ := hbody cdv A outer s H vs Q E (deeper_guards hgd) (hr.deeper _) hsp
  have I : Inv (cxOf CX0 P w K mg base N qual scope f cdv A outer s H E) [] (start N vs) H s1 := inv_start S hr.hd e0 hlv r z
  refine wpAny_mono (ht.run [] s1 (start N vs) H _ I hq) (fun fl s' hs => ?_) fun e s' hs => hs
  cases fl with
  | ret u =>
    obtain ⟨v, σ', H', J, rv, q⟩ := hs
    exact ⟨v, H', J.os, J.bare, J.base, J.hok, rv, q⟩
  | next =>
    obtain ⟨σ', H', J, q⟩ := hs
    exact ⟨V.non, H', J.os, J.bare, J.base, J.hok, rfl, q⟩
  | brk =>
    obtain ⟨_, _, _, q⟩ := hs
    exact q.elim
  | cont =>
    obtain ⟨_, _, _, q⟩ := hs
    exact q.elim
end
section
variable {X : Cx} {k : Nat} {f : Addr} {fd : FuncData} {ps : List Str} {sp : Sp} {x : Str} {p pos : Pos} {e : Expr} {es : List Expr} {t : TA}
/-- such a def called -/
theorem pe_callG (F : FnG X.prog X.w X.K X.mg X.base k f fd ps sp) (hgd : X.A.guards = some []) (hr : Room k X.A) (hg : Gl X x) (hm : X.mg x = some (.ref f)) (hk : PySem.W.keepIn X.K (.ref f) = true) (hb : Binds X.K fd ps [])
    (ha : PA X (e :: es) t) (hdb : (x == ("__debug__" : Str)) = false := by decide) (he : starEach (e :: es) X.env = (false, eval e X.env) :: starEach es X.env := by rfl) (hpl : (backTo pos (starEach es X.env)).any (·.1) = false := by rfl) :
    PE X (.Call (.Name x p) (e :: es) [] pos) (tCall sp [] E0 t) := by
  refine ⟨fun pins s σ H Q I h => ?_⟩
  refine wpAny_Call_Name_kw (ld_glob I hg hm ?_ hdb)
  refine PySem.W.callWith_K (h₀ := X.base) I.ok.mod.kin hk (thn (ha.run pos pins s σ H _ I h) fun us s1 ⟨vs, H1, I1, r, q⟩ => ⟨I1.kIn, ?_⟩) he hpl
  have r2 : Vals (vs ++ []) (us ++ []) := r.append .nil
  have hl : (us ++ []).length = ps.length := by
    rw [← r2.length]
    exact F.len _ _ _ _ q
  refine wpAny_call (codeAny_mono (F.run X.A X.stack s1 H1 ⟨us, []⟩ (us ++ []) (vs ++ []) Q E0 hgd hr I1.env0 (hb s1 us I1.kIn hl) r2 q) fun r s' hq => ?_)
  cases r with
  | error er => exact hq.elim
  | ok fl =>
    cases fl with
    | ret u => exact I1.after hq
    | next => exact hq.elim
    | brk => exact hq.elim
    | cont => exact hq.elim
/-! ### repr of data -/
/-- data that stands: as Dp, or a dict of flat things at its top -/
def flatD : V → Option PyData
  | .non => some .none
  | .bl b => some (.bool b)
  | .int i => some (.int i)
  | .str z => some (.str z)
  | _ => none
def keyD : Key → PyData
  | .inl i => .int i
  | .inr z => .str z
def flatR (q : Key × V) (p : PyData × PyData) : Prop := p.1 = keyD q.1 ∧ flatD q.2 = some p.2
def Rp (K : PySem.W.Frag) (H : Hp) (v : V) (d : PyData) : Prop := Dp K H v d ∨ ∃ (a : Addr) (kvs : List (Key × V)) (ds : List (PyData × PyData)), v = .ref a ∧ H a = some (.dK kvs) ∧ Paired flatR kvs ds ∧ d = .dict ds
theorem flat_reads {h : Heap} {v : V} {u : Value} {d : PyData} (r : RelV v u) (e : flatD v = some d) : Reads h u d [] := by
  cases v with
  | non =>
    cases r
    cases e
    exact .none
  | bl b =>
    cases r
    cases e
    exact .bool b
  | int i =>
    obtain ⟨t, rfl⟩ := r
    cases e
    exact .int i t
  | str z =>
    obtain ⟨t, rfl⟩ := r
    cases e
    exact .str z t
  | byt _ => cases e
  | flt _ => cases e
  | ref _ => cases e
  | ty _ => cases e
theorem key_reads {h : Heap} {k : Key} {u : Value} (r : keyIs k u = true) : Reads h u (keyD k) [] := by
  rcases keyIs_shape r with ⟨i, t, rfl, rfl⟩ | ⟨z, t, rfl, rfl⟩
  · exact .int i t
  · exact .str z t
theorem dict_reads {P : Program} {w : World} {h : Heap} : ∀ {kvs : List (Key × V)} {vs : List (Key × Value)} {es : List DictEntry} {ds : List (PyData × PyData)}, KV kvs vs → Pairs (mixKind P w) es vs → Paired flatR kvs ds →
    ReadsAll h (es.map (·.key)) (ds.map (·.1)) [] ∧ ReadsAll h (es.map (·.val)) (ds.map (·.2)) []
  | _, _, _, _, .nil, .nil, .nil => ⟨.nil, .nil⟩
  | _, _, _, _, .cons r t, .cons a b c, .cons f g => by
    obtain ⟨h1, h2⟩ := dict_reads t c g
    obtain ⟨r1, r2⟩ := r
    obtain ⟨f1, f2⟩ := f
    refine ⟨?_, ?_⟩
    · have k1 := key_reads (h := h) a
      rw [← r1, ← f1] at k1
      exact ReadsAll.cons (bs := []) k1 h1
    · have k2 := flat_reads (h := h) r2 f2
      rw [← b] at k2
      exact ReadsAll.cons (bs := []) k2 h2
theorem dp_nodict : ∀ {K : PySem.W.Frag} {H : Hp} (d : PyData) {v : V}, Dp K H v d → d.hasDict = false
  | _, _, .none, _, _ => rfl
  | _, _, .bool _, _, _ => rfl
  | _, _, .int _, _, _ => rfl
  | _, _, .str _, _, _ => rfl
  | K, H, .list ds, _, h => by
    cases h with
    | lst hs ha =>
      simp only [PyData.hasDict]
      exact dp_nodictAll ds ha
  | K, H, .tuple ds, _, h => by
    cases h with
    | tup hs ha =>
      simp only [PyData.hasDict]
      exact dp_nodictAll ds ha
  | _, _, .dict _, _, h => by cases h
where dp_nodictAll {K : PySem.W.Frag} {H : Hp} : ∀ (ds : List PyData) {vs : List V}, DpAll K H vs ds → PyData.hasDictAll ds = false
  | [], _, _ => rfl
  | d :: ds, _, h => by
    cases h with
    | cons h1 h2 =>
      simp only [PyData.hasDictAll, dp_nodict d h1, dp_nodictAll ds h2, Bool.or_self]
/-- repr of such data -/
theorem call_repr (hgd : X.A.guards = some []) (hu : X.A.units + 64 < cLine) : CallR X (.builtin "repr") (fun xs H Q => ∃ v d, xs = [v] ∧ Rp X.K H v d ∧ PyData.showable d = true ∧ d.depth ≤ 20 ∧ d.shown.length ≤ sizeLine ∧ Q (.str d.shown) H) := by
  intro pins s σ H xs us Q I r h
  obtain ⟨v, d, rfl, hd, hs, hdp, hsz, q⟩ := h
  obtain ⟨u, rfl, ru⟩ := vals1 r
  have go : ∀ (a : Addr) (as : List Addr), u = .ref a → Reads s.heap u d as → (d.hasDict = true → sysModules ∉ as) → wpAny (model X.prog X.w) X.A (call (.builtin "repr") [u]) (EP X pins σ Q) X.xe s := by
    intro a as e rd hm
    subst e
    exact repr_of_reads' rd hs hm hgd (by omega) (fun _ _ e => e) (fun h' t tk kk => ⟨.str d.shown, H, I.kept (t' := tk) kk, ⟨t, rfl⟩, q⟩) hsz
  rcases hd with hd | ⟨a, kvs, ds, rfl, ha, hp, rfl⟩
  · have hn := dp_nodict d hd
    obtain ⟨as, rd⟩ := Dp.reads I d v u hd ru
    cases hd with
    | non =>
      cases ru
      simp only [PyData.shown] at q
      exact P.repr_of_none ⟨.str _, H, I.tok _, ⟨_, rfl⟩, q⟩
    | bl b =>
      cases ru
      simp only [PyData.shown] at q
      exact P.repr_of_bool ⟨.str _, H, I.tok _, ⟨_, rfl⟩, q⟩
    | int i =>
      obtain ⟨t, rfl⟩ := ru
      exact P.repr_of_int (by simpa [PyData.showable] using hs) ⟨.str _, H, I.tok _, ⟨_, rfl⟩, by simpa only [PyData.shown] using q⟩
    | str z =>
      obtain ⟨t, rfl⟩ := ru
      exact P.repr_of_str ⟨.str _, H, I.tok _, ⟨_, rfl⟩, by simpa only [PyData.shown] using q⟩ (by simpa only [PyData.shown] using hsz)
    | lst h1 h2 =>
      cases ru
      exact go _ as rfl rd fun z => by rw [hn] at z; cases z
    | tup h1 h2 =>
      cases ru
      exact go _ as rfl rd fun z => by rw [hn] at z; cases z
  · cases ru
    obtain ⟨_, hsy, vs, kv, o, es, ep, e1, e2, e3, _, e5, _⟩ := (show ObjOk X.prog X.w H s.heap a (.dK kvs) from I.hok a _ ha)
    obtain ⟨k1, k2⟩ := dict_reads (h := s.heap) kv e5 hp
    refine go a (a :: [] ++ []) rfl (Reads.dict e1 e2.1 e3 k1 k2) fun _ z => ?_
    simp only [List.append_nil, List.mem_singleton, List.append_eq] at z
    rw [← z] at hsy
    simp at hsy
end
end Gd
set_option Elab.async false
set_option linter.all false
set_option maxRecDepth 100000
set_option maxHeartbeats 4000000
namespace Fx
open PySem PySem.W PySem.Calls PyProof.Rows PySem.HandSPX
open Builtin Builtin.ObjectAttr
/-- a built-in base of errors, as far as errors over it want it -/
structure Root (B newId initId : String) (bmB : List Value) : Prop where
  fb : ExcBaseFacts B newId initId bmB
  kx : KxsFacts B initId
  pass : ∀ self, refuseLoop self "__setattr__" bmB = pure ()
  obj : bmB.contains (.type "object") = true
theorem rootV : Root "ValueError" "ValueError.__new__" "ValueError.__init__" [.type "ValueError", .type "Exception", .type "BaseException", .type "object"] :=
  ⟨F.excBase_ValueError, kxs_ValueError, F.store_ValueError.passes, by decide +kernel⟩
theorem rootL : Root "LookupError" "LookupError.__new__" "LookupError.__init__" [.type "LookupError", .type "Exception", .type "BaseException", .type "object"] :=
  ⟨F.excBase_LookupError, kxs_LookupError, F.store_LookupError.passes, by decide +kernel⟩
theorem rootA : Root "ArithmeticError" "ArithmeticError.__new__" "ArithmeticError.__init__" [.type "ArithmeticError", .type "Exception", .type "BaseException", .type "object"] :=
  ⟨F.excBase_ArithmeticError, kxs_ArithmeticError, F.store_ArithmeticError.passes, by decide +kernel⟩
section
variable {prog : Program} {w : World} {A : Around} {R : Result → Shared → Prop} {g0 : Heap} {gs : Array GenState} {dr : Drawn} {tk0 : Nat} {oz : OsState} {B newId initId : String} {bmB : List Value}
/-- the first attribute of a new error: its dict is made -/
theorem osa (Z : Root B newId initId bmB) {K : Frag} {name : Str} {tk : Tok} {v : Value} {x C W : Addr} {fv : Array Value} {cd : ClassData}
    (X : K.In g0) (hx : g0.get? x = some { cls := .ref C, data := .fields fv }) (hcd : clsIn K C = some cd) (hm : cd.mro = .ref C :: .ref W :: bmB) (hh : cd.hasDict = true) (ha : findIn K (.ref C) name = some none)
    (hq : ∀ g1 tk1 dx, (∀ b o, b ≠ x → g0.get? b = some o → g1.get? b = some o) → g0.objs.size ≤ dx → dx ≠ x → g1.get? x = some { cls := .ref C, dict := some dx, data := .fields fv } →
      g1.Ns1 dx (fun y => if y = name then some v else none) → R (.ok (.ret .none)) ⟨g1, gs, dr, tk1, oz⟩) :
    codeAny (model prog w) A (.call (.builtin "object.__setattr__") ⟨[.ref x, .str name tk, v], []⟩) R ⟨g0, gs, dr, tk0, oz⟩ := by
  have J : PySem.W.InstAt g0 x { cls := .ref C, data := .fields fv } C none := ⟨hx, rfl, rfl, trivial⟩
  have ST := PySem.F.store_object
  have hob : (Value.ref C :: Value.ref W :: bmB).contains (.type "object") = true := by
    rw [List.contains_cons, List.contains_cons, Z.obj, Bool.or_true, Bool.or_true]
  have hxs : x ≠ g0.objs.size := Nat.ne_of_lt (Heap.lt_size hx)
  have hmi : mroIn K C (.type "object") = some true := by
    unfold mroIn
    rw [hcd, Option.bind_some, hm, if_neg (show ¬ (List.isEmpty (Value.ref C :: Value.ref W :: bmB) = true) from Bool.false_ne_true), hob]
  have sub : Looks (model prog w) g0 (isInstance (.ref x) (.type "object")) true := J.type.andThen (looks_mroIn X hmi)
  refine codeAny_call_builtin ST.slot.plain ST.entry (@check_slot (model prog w) _ _ ⟨g0, gs, dr, tk0, oz⟩ "object.__setattr__" "object" "__setattr__" (.ref x) [.str name tk, v] [] _ ST.kind ST.split sub (ST.args (.ref x) (.str name tk) v) ?_)
  have hmr : Looks (model prog w) g0 (mroOf (.ref C)) cd.mro := (looks_clsIn X hcd).andThen .now
  have L3 : Looks (model prog w) g0 (storeTaker? none) none := .now
  have hcls : Looks (model prog w) g0 (classData C) cd := looks_clsIn X hcd
  rw [osa_eq, refuse_eq]
  refine wpAny_bind (wpAny_bind (J.type.at (wpAny_bind (hmr.at ?_))))
  rw [hm, refuseLoop_ref, refuseLoop_ref, Z.pass]
  refine wpAny_pure (wpAny_bind (J.type.at (wpAny_bind ((looks_findIn X ha).at (wpAny_bind (L3.at ?_))))))
  show wpAny _ _ (storeInOwnDict (.ref x) (.ref C) (.str name tk) name v false) _ _ _
  obtain ⟨nm, bs, mro, ns, qn, hd, sn, sb, ab, col, del⟩ := cd
  dsimp only at hh
  subst hh
  unfold storeInOwnDict ownDictForStores
  repeat (first | with_reducible refine store_in_new ?_ ?_ | with_reducible refine wpAny_loadPart_at hx ?_ | with_reducible refine hcls.at ?_ | wp_step)
  · refine ⟨_, #[], _, (Heap.get?_update_ne _ _ _ _ hxs.symm).trans (Heap.get?_push_at rfl rfl), rfl, fun e he => absurd he (by simp), ?_⟩
    intro _
    rfl
  · intro g1 tk1 hn' hs
    have hx₁ : (g0.push { cls := .type "dict", data := .dict #[] }).get? x = some { cls := .ref C, data := .fields fv } := Heap.get?_push_of_some _ hx
    refine hq g1 tk1 g0.objs.size (fun b o hb ho => ?_) (Nat.le_refl _) hxs.symm ?_ hn'
    · exact (hs.2 b (Nat.ne_of_lt (Heap.lt_size ho))).trans ((Heap.get?_update_ne _ _ _ _ hb).trans (Heap.get?_push_of_some _ ho))
    · exact (hs.2 x hxs).trans (Heap.get?_update_self _ hx₁ rfl)
end
/-- the text of an error's __init__: super().__init__(msg), and one attribute or none -/
def iS0 : Scope := { kind := .function, names := [(Str.ofString "self", .local), (Str.ofString "__class__", .free), (Str.ofString "super", .globalImplicit)], isGenerator := false, isCoroutine := false, more := [] }
def iS1 (f : Str) : Scope := { kind := .function, names := [(Str.ofString "self", .local), (f, .local), (Str.ofString "__class__", .free), (Str.ofString "super", .globalImplicit)], isGenerator := false, isCoroutine := false, more := [] }
def iA0 (p1 : Pos) : Arguments := { posonlyargs := [], args := [{ arg := "self", annotation := none, pos := p1 }], vararg := none, kwonlyargs := [], kw_defaults := [], kwarg := none, defaults := [] }
def iA1 (f : Str) (p1 p2 : Pos) : Arguments := { posonlyargs := [], args := [{ arg := "self", annotation := none, pos := p1 }, { arg := f, annotation := none, pos := p2 }], vararg := none, kwonlyargs := [], kw_defaults := [], kwarg := none, defaults := [] }
def iSup (msg : Str) (k : Nat) (q1 q2 q3 q4 q5 q6 : Pos) : Stmt := .Expr (.Call (.Attribute (.Call (.Name "super" q1) [] [] q2) "__init__" q3) [.Constant (.str msg) k q4] [] q5) q6
def iSet (f : Str) (q1 q2 q3 q4 : Pos) : Stmt := .Assign [.Attribute (.Name "self" q1) f q2] (.Name f q3) q4
/-- what the written part says of the class at C, right under the own class at W; its __init__ at fI, which closes over its class in the cell at cc -/
structure ErrT (K : Frag) (mg : Str → Option Value) (newId initId : String) (bmB : List Value) (C W fI : Addr) : Prop where
  cls : ∃ nm q N bs sn sub ab col dd k0 k1 k2 k3 k5, K.lookup C = some (excClassObj nm q C N bs (.ref W :: bmB) true sn sub ab col dd k0 k1 k2 k3 k5 newId)
  sa : findIn K (.ref C) "__setattr__" = some (some (.builtin "object.__setattr__"))
  iC : findIn K (.ref C) "__init__" = some (some (.ref fI))
  tI : typeIn K (.ref fI) = some (.type "function")
  kC : keepIn K (.ref C) = true
  al : alongIn K "__init__" (.ref W :: bmB) = some (some (.builtin initId))
  th : nsIn K cStatics "thirdparty.any" = some none
  su : mg "super" = none
/-- its __init__ with one parameter -/
def Fn1 (prog : Program) (K : Frag) (C fI : Addr) (f : Str) : Prop := ∃ (oc : Value) (od : Option Addr) (qual msg : Str) (kM : Nat) (kV doc pm : Value) (an : Option Addr) (cda cc : Addr) (ct : Value) (osl : Array (Option Value)) (p1 p2 q1 q2 q3 q4 q5 q6 r1 r2 r3 r4 : Pos) (vs : Array Value) (file : Str) (tf : Tok) (ccl cl : Value) (cdd cld : Option Addr) (ccs csl : Array (Option Value)),
    K.lookup fI = some ⟨oc, od, .func (ksFn "__init__" qual (iA1 f p1 p2) [iSup msg kM q1 q2 q3 q4 q5 q6, iSet f r1 r2 r3 r4] (iS1 f) .none kV doc pm an (.ref cda) ct cc), osl⟩ ∧ codeIn K (.ref cda) qual = true ∧
    K.lookup cda = some ⟨ccl, cdd, .fields vs, ccs⟩ ∧ vs[2]? = some (.str file tf) ∧ ((prog.main.file : Str) == file) = true ∧ K.lookup cc = some ⟨cl, cld, .cell (some (.ref C)), csl⟩ ∧ (prog.main.scope.names.lookup ("super" : Str)).isSome = false ∧ (q3.endLine == q5.line) = true
end Fx
set_option Elab.async false
set_option linter.all false
set_option maxRecDepth 100000
set_option maxHeartbeats 4000000
namespace Fx
open PySem PySem.W PySem.Calls PyProof.Rows PySem.HandSPX
open Builtin Builtin.ObjectAttr
section
variable {prog : Program} {w : World} {A : Around} {R : Result → Shared → Prop} {s : Shared} {B newId initId : String} {bmB : List Value} {K : Frag} {mg : Str → Option Value} {base : Heap} {C W fI : Addr}
/-- super().__init__(msg) within the __init__ of a new error at x -/
theorem sup_stmt (Z : Root B newId initId bmB) (T : ErrT K mg newId initId bmB C W fI) (M : L2.Mod K mg base) (kb : ∀ b o, base.get? b = some o → s.heap.get? b = some o) {qual msg : Str} {sc : Scope} {kM : Nat} {kV doc pm ct oc ccl cl : Value} {od an cdd cld : Option Addr} {cda cc L x t0 : Addr} {osl ccs csl : Array (Option Value)} {vs : Array Value} {file : Str} {tf : Tok} {ps : Arguments} {body : List Stmt} {ar : Arg} {m : Str → Option Value} {q1 q2 q3 q4 q5 q6 : Pos} {Q : Flow → Shared → Prop} {E : Value → Shared → Prop}
    (lf : K.lookup fI = some ⟨oc, od, .func (ksFn "__init__" qual ps body sc .none kV doc pm an (.ref cda) ct cc), osl⟩) (hp : (ps.posonlyargs ++ ps.args).head? = some ar) (har : ar.arg = "self")
    (lc : K.lookup cda = some ⟨ccl, cdd, .fields vs, ccs⟩) (hvs : vs[2]? = some (.str file tf)) (hfile : ((prog.main.file : Str) == file) = true) (lcell : K.lookup cc = some ⟨cl, cld, .cell (some (.ref C)), csl⟩) (htop : (prog.main.scope.names.lookup ("super" : Str)).isSome = false)
    (hks : sc.names.lookup ("super" : Str) = some .globalImplicit) (hkc : sc.names.lookup ("__class__" : Str) = some .free) (hka : sc.names.lookup ("self" : Str) = some .local) (hl1 : (q3.endLine == q5.line) = true) (hk : sc.kind = .function) (hi : interactive (ksEnv qual sc L fI (.ref cda) cc) = false)
    (hn : s.heap.Ns L m) (hm : m "self" = some (.ref x)) (hx : s.heap.get? x = some (excO C t0))
    (hq : ∀ h' tk t1, (∀ b o, b ≠ x → s.heap.get? b = some o → h'.get? b = some o) → h'.get? x = some (excO C t1) → Q .next { s with heap := h', toks := tk }) :
    _root_.PySem.wpAt (model prog w) A (.func body (ksEnv qual sc L fI (.ref cda) cc)) (exec (iSup msg kM q1 q2 q3 q4 q5 q6) (ksEnv qual sc L fI (.ref cda) cc)) Q E s := by
  obtain ⟨nm, q, N, bs, sn, sub, ab, col, dd, k0, k1, k2, k3, k5, hC⟩ := T.cls
  have X : K.In s.heap := M.kin.keeps kb
  have hcl : clsIn K C = some { name := nm, bases := bs, mro := .ref C :: .ref W :: bmB, ns := N, qualname := q, hasDict := true, slotNames := sn, subclasses := sub, abstract := ab, collection := col, hasDel := false } := by unfold clsIn; rw [hC] <;> rfl
  obtain ⟨mb, hb1, hb2⟩ := M.blt
  have J : PySem.W.InstAt s.heap x (excO C t0) C none := ⟨hx, rfl, rfl, trivial⟩
  have hCh := X _ _ hC
  have hmC : mroIn K C (.ref C) = some true := by
    unfold mroIn
    rw [hcl, Option.bind_some]
    simp
  have hmB : mroIn K C (.type B) = some true := by
    unfold mroIn
    rw [hcl, Option.bind_some, if_neg (show ¬ (List.isEmpty (Value.ref C :: Value.ref W :: bmB) = true) from Bool.false_ne_true)]
    show some ((Value.ref C :: Value.ref W :: bmB).contains (.type B)) = some true
    rw [List.contains_cons, List.contains_cons, Z.fb.hasB, Bool.or_true, Bool.or_true]
  unfold iSup
  refine ks_wpAt_Expr_any ?_ hi
  refine ks_wpAt_MethodCall (pl := L2.plainOf (.Call (.Name "super" q1) [] [] q2) (ksEnv qual sc L fI (.ref cda) cc)) ?_ ?he
  case he =>
    have e1 := fun ov => L2.mcall_line (o := .Call (.Name "super" q1) [] [] q2) (m := "__init__") (apos := q3) (pos := q5) (env := ksEnv qual sc L fI (.ref cda) cc) (ov := ov) (n := 1) (args := backTo q5 (starEach [.Constant (.str msg) kM q4] (ksEnv qual sc L fI (.ref cda) cc))) (kws := []) (by rfl) hl1
    show (attributeBase _ _ _ _ >>= fun ov => standAt q3.atName >>= fun _ => methodCall _ _ _ _ _ ov _ _ _) = _
    refine congrArg _ (funext fun ov => congrArg _ (funext fun _ => ?_))
    exact e1 ov
  refine ks_wpAt_super_base (env := ksEnv qual sc L fI (.ref cda) cc) hks hkc (by decide) rfl (X _ _ lf) rfl hp rfl (X _ _ lc) rfl hvs hfile htop ?_
  refine ks_loadName_global hk hks (loadGlobal_builtin (env := ksEnv qual sc L fI (.ref cda) cc) (M.glob.keeps kb) T.su (hb1.keeps kb) ((hb2 _ (by decide +kernel)).trans (by first | boot_by_name | rfl | kernel_rfl)) ⟨rfl, ?_⟩)
  refine wpAny_loadName_free hk hkc rfl ⟨_, X _ _ lcell, rfl⟩ ?_
  rw [har]
  refine wpAny_loadName_local hk hka hn hm ?_
  refine ks_wpAny_isType_cls hCh rfl ⟨rfl, ?_⟩
  obtain ⟨hh, g, d, t, os⟩ := s
  refine ks_wpAny_call_super hCh rfl J.at_ J.cls (fun c e => ?_) (looks_mroIn X hmC) (fun h1 e1 kk1 => ?_)
  · cases e
  have X1 : K.In h1 := X.keeps kk1
  have J1 : PySem.W.InstAt h1 x (excO C t0) C none := ⟨kk1 _ _ hx, rfl, rfl, trivial⟩
  have hI : Looks (model prog w) h1 (isInstance (.ref x) (.type B)) true := J1.type.andThen (looks_mroIn X1 hmB)
  have hxC : x ≠ C := ks_ne X J hcl
  refine kxs_getMethod Z.kx e1 (looks_opaque X1 T.th) (l₀ := .ref C :: .ref W :: bmB) ?_ rfl X1 (name := "__init__") ?_ hI hxC (by decide) ?_
  · exact fun A Q E s k q => wpAny_bind ((looks_clsIn X1 hcl) A _ E s k (wpAny_pure q))
  · have e0 : ((Value.ref C :: Value.ref W :: bmB).dropWhile (· != .ref C)).drop 1 = .ref W :: bmB := by simp [List.dropWhile_cons]
    rw [e0]
    exact T.al
  refine kxs_callWith (i := initId) (x := x) (by rfl) ?_
  show wpAny _ _ (evalArgs _ true ((false, eval (.Constant (.str msg) kM q4) (ksEnv qual sc L fI (.ref cda) cc)) :: []) []) _ _ _
  refine evalArgs_plain (spliced_cons (wpAny_Constant_str (spliced_nil ⟨Heap.get?_push_at rfl rfl, ?_⟩)))
  have up2 : ∀ b o, h1.get? b = some o → (h1.push (kxs_mw initId x)).get? b = some o := fun b o e => Heap.get?_push_of_some _ e
  refine wpAny_call (codeAny_of_tree ?_)
  show wpAny _ A.in1 (callAny (.ref _) ⟨[.str msg _], []⟩) _ _ _
  simp only [callAny]
  refine wpAny_bind (wpAny_load (Heap.get?_push_at rfl rfl) ?_)
  simp only [kxs_mw, show (Value.type "method-wrapper" == Value.type "method" || Value.type "method-wrapper" == Value.type "builtin_function_or_method" || Value.type "method-wrapper" == Value.type "method-wrapper") = true by decide, if_true]
  refine KFB.if_so (by decide) ?_
  refine wpAny_bind (check_bound_init Z.fb.toExcCallFacts (up2 _ _ (kk1 _ _ hCh)) (up2 _ _ (kk1 _ _ hx)) rfl ?_)
  refine wpAny_bind (wpAny_pure (wpAny_pure ?_))
  refine ⟨plainId_quiet Z.fb.init.plain _, codeAny_builtin Z.fb.initEntry ?_⟩
  refine exc_init_tree (cls := .ref C) (t0 := t0) (dv := none) (c2 := .none) (c3 := .none) (b4 := .bool false) (up2 _ _ (kk1 _ _ hx)) (by show 1 ≤ sizeLine; rw [sizeLine_eq]; omega) fun h2 k2' he' _ => ?_
  exact hq h2 _ _ (fun b o hb e => k2' b o hb (up2 _ _ (kk1 _ _ e))) he'
end
end Fx
set_option Elab.async false
set_option linter.all false
set_option maxRecDepth 100000
set_option maxHeartbeats 4000000
namespace Fx
open PySem PySem.W PySem.Calls PyProof.Rows PySem.HandSPX
open Builtin Builtin.ObjectAttr
/-- an error made: at x, its dict at dx with the one attribute -/
abbrev excD (C t : Addr) (dx : Option Addr) : Obj := { cls := .ref C, dict := dx, data := .fields #[.ref t, .none, .none, .none, .bool false, .none] }
theorem cellS1 (f : Str) : ∀ y ∈ (iS1 f).names, y.2 ≠ .cell := by
  intro y hy
  simp only [iS1, List.mem_cons, List.not_mem_nil, or_false] at hy
  rcases hy with rfl | rfl | rfl | rfl <;> exact fun z => nomatch z
theorem locS1 {f : Str} (hf : f = "given" ∨ f = "index") (a b : Value) : ∀ y ∈ [((Str.ofString "self" : Str), a), (f, b)], (iS1 f).names.lookup y.1 = some .local := by
  intro y hy
  simp only [List.mem_cons, List.not_mem_nil, or_false] at hy
  rcases hf with rfl | rfl <;> rcases hy with rfl | rfl <;> rfl
theorem cellS0 : ∀ y ∈ iS0.names, y.2 ≠ .cell := by
  intro y hy
  simp only [iS0, List.mem_cons, List.not_mem_nil, or_false] at hy
  rcases hy with rfl | rfl | rfl <;> exact fun z => nomatch z
theorem locS0 (a : Value) : ∀ y ∈ [((Str.ofString "self" : Str), a)], iS0.names.lookup y.1 = some .local := by
  intro y hy
  simp only [List.mem_cons, List.not_mem_nil, or_false] at hy
  subst hy
  rfl
section
variable {prog : Program} {w : World} {A : Around} {R : Result → Shared → Prop} {s : Shared} {B newId initId : String} {bmB : List Value} {K : Frag} {mg : Str → Option Value} {base : Heap} {C W fI : Addr}
theorem ldK {M : Model} {E : Value → Shared → Prop} {nm : Str} {sc : Scope} {L a cc : Addr} {cd : Value} {m : Str → Option Value} {y : Str} {pos : Pos} {v : Value} {Q : Value → Shared → Prop} (hn : s.heap.Ns L m) (hv : m y = some v) (h : Q v s)
    (hk : sc.kind = .function := by rfl) (hl : (ksEnv nm sc L a cd cc).kindOf y = some .local := by rfl) (hd : (y == ("__debug__" : Str)) = false := by decide) : wpAny M A (PySem.eval (.Name y pos) (ksEnv nm sc L a cd cc)) Q E s :=
  wpAny_Name (wpAny_loadName_local hk hl hn hv h) hd
theorem init1 (Z : Root B newId initId bmB) (T : ErrT K mg newId initId bmB C W fI) (M : L2.Mod K mg base) (kb : ∀ b o, base.get? b = some o → s.heap.get? b = some o) {f : Str} (hf : f = "given" ∨ f = "index") (noF : findIn K (.ref C) f = some none)
    (N : Fn1 prog K C fI f) {x t0 : Addr} {v : Value} {args : Args} (hb : args = ⟨[.ref x, v], []⟩ ∨ args = ⟨[.ref x], [(f, v)]⟩) (hx : s.heap.get? x = some (excO C t0)) (hnx : base.get? x = none) (hroom : A.depth < recursionLimit)
    (hq : ∀ h' tk dx t1, (∀ b o, b ≠ x → s.heap.get? b = some o → h'.get? b = some o) → h'.get? x = some (excD C t1 (some dx)) → s.heap.objs.size ≤ dx → dx ≠ x → h'.Ns1 dx (fun y => if y = f then some v else none) → R (.ok (.ret .none)) { s with heap := h', toks := tk }) :
    codeAny (model prog w) A (.call (.ref fI) args) R s := by
  obtain ⟨oc, od, qual, msg, kM, kV, doc, pm, an, cda, cc, ct, osl, p1, p2, q1, q2, q3, q4, q5, q6, r1, r2, r3, r4, vs, file, tf, ccl, cl, cdd, cld, ccs, csl, lf, lcd, lc, hvs, hfile, lcell, htop, hl1⟩ := N
  obtain ⟨nm, q, N, bs, sn, sub, ab, col, dd, k0, k1, k2, k3, k5, hC⟩ := T.cls
  have X : K.In s.heap := M.kin.keeps kb
  have hcl : clsIn K C = some { name := nm, bases := bs, mro := .ref C :: .ref W :: bmB, ns := N, qualname := q, hasDict := true, slotNames := sn, subclasses := sub, abstract := ab, collection := col, hasDel := false } := by unfold clsIn; rw [hC] <;> rfl
  rcases hf with rfl | rfl
  all_goals
    refine ks_codeAny_call_defAt (fd := ksFn "__init__" qual (iA1 _ p1 p2) [iSup msg kM q1 q2 q3 q4 q5 q6, iSet _ r1 r2 r3 r4] (iS1 _) .none kV doc pm an (.ref cda) ct cc) (body := [iSup msg kM q1 q2 q3 q4 q5 q6, iSet _ r1 r2 r3 r4]) (binds := [("self", .ref x), (_, v)]) hroom (X _ _ lf) rfl (M.nolimit.keeps kb) (codeRec_of X lcd) rfl (by rcases hb with rfl | rfl <;> exact .of_eq rfl) (cellS1 _) (locS1 (by first | exact .inl rfl | exact .inr rfl) _ _) (fun h₁ hns hk₁ => ?_) rfl rfl rfl
    refine ks_wpAt_execs_cons (sup_stmt Z T M (fun b o e => hk₁ b o (kb b o e)) lf rfl rfl lc hvs hfile lcell htop rfl rfl rfl hl1 rfl rfl hns (m := fun y => [((PySem.Str.ofString "self" : Str), Value.ref x), (_, v)].reverse.lookup y) (by rfl) (hk₁ _ _ hx) fun h₂ tk₂ t2 k₂ e₂ => ?_)
    refine wpAt_of_wpAny ?_
    have xL : s.heap.objs.size ≠ x := Nat.ne_of_gt (Heap.lt_size hx)
    have hns2 := hns
    obtain ⟨oL, es, ep, hL, rL⟩ := hns2
    have hns' : h₂.Ns s.heap.objs.size (fun y => [((PySem.Str.ofString "self" : Str), Value.ref x), (_, v)].reverse.lookup y) := ⟨oL, es, ep, k₂ _ _ xL hL, rL⟩
    have X₂ : K.In h₂ := fun b o e => k₂ b o (fun z => by
      have y := M.kin b o e
      rw [z, hnx] at y
      cases y) (hk₁ b o (X b o e))
    refine wpAny_execs_cons (plainObj_wpAny_Assign_Attribute ?_)
    refine ldK (v := v) hns' (by rfl) (ldK (v := .ref x) hns' (by rfl) ?_)
    refine set_plain X₂ (ox := excO C t2) (od := none) ⟨e₂, rfl, rfl, trivial⟩ T.sa ?_
    refine osa Z X₂ e₂ hcl rfl rfl noF fun h₃ tk₃ dx k₃ dn dne hx₃ hn₃ => ?_
    show wpAny _ _ (execs _ _) _ _ _
    refine wpAny_execs_nil (hq h₃ tk₃ dx t2 (fun b o hb e => k₃ b o hb (k₂ b o hb (hk₁ b o e))) hx₃ ?_ dne hn₃)
    exact Nat.le_trans (Nat.le_of_lt hns'.lt) dn
end
end Fx
set_option Elab.async false
set_option linter.all false
set_option maxRecDepth 100000
set_option maxHeartbeats 4000000
namespace Fx
open PySem PySem.W PySem.Calls PyProof.Rows PySem.HandSPX
open Builtin Builtin.ObjectAttr
/-! a class of errors called, with any positional and keyword arguments -/
section
variable {M : Model} {A : Around} {E : Value → Shared → Prop} {g0 : Heap} {gs : Array GenState} {dr : Drawn} {tk0 : Nat} {oz : OsState}
variable {nm qn : Str} {C N : Addr} {bs bm bmB : List Value} {hdct : Bool} {sn : List Str} {sub : List Value} {ab : Bool} {col : Option Bool} {dd : Option Addr} {k0 k1 k2 k3 k5 : Option Value} {B newId initId : String}
theorem kw_check (F : ExcBaseFacts B newId initId bmB) (hT : ∀ y : String, bm.contains (.type y) = bmB.contains (.type y)) {rest : List Value} {kw : List (Str × Value)} {Q : Unit → Shared → Prop}
    (hC : g0.get? C = some (excClassObj nm qn C N bs bm hdct sn sub ab col dd k0 k1 k2 k3 k5 newId)) (hq : Q () ⟨g0, gs, dr, tk0, oz⟩) : wpAny M A (checkBuiltinCall newId ⟨.ref C :: rest, kw⟩) Q E ⟨g0, gs, dr, tk0, oz⟩ := by
  have hB : (Value.ref C :: bm).contains (.type B) = true := by
    rw [List.contains_cons, hT, F.hasB, Bool.or_true]
  have hns := F.noStar
  simp only [checkBuiltinCall, F.newKind, F.newSplit, F.newRow]
  repeat (first | refine wpAny_loadPart_at hC ?_ | (refine wpAny_isSubtype_exc hC ?_; rw [hB]) | refine wpAny_staticBase_exc hC ?_ | refine wpAny_madeBy_exc hC ?_ | simp only [bne_self_eq_false, Bool.false_eq_true, if_false] | wp_step)
  first
    | exact hq
    | skip
end
section
variable {prog : Program} {w : World} {A : Around} {E : Value → Shared → Prop} {R : Result → Shared → Prop} {g0 : Heap} {gs : Array GenState} {dr : Drawn} {tk0 : Nat} {oz : OsState}
variable {nm qn : Str} {C N : Addr} {bs bm bmB : List Value} {hdct : Bool} {sn : List Str} {sub : List Value} {ab : Bool} {col : Option Bool} {dd : Option Addr} {k0 k1 k2 k3 k5 : Option Value} {B newId initId : String}
theorem kw_new (F : ExcBaseFacts B newId initId bmB) (hT : ∀ y : String, bm.contains (.type y) = bmB.contains (.type y)) {rest : List Value} {kw : List (Str × Value)}
    (hC : g0.get? C = some (excClassObj nm qn C N bs bm hdct sn sub ab col dd k0 k1 k2 k3 k5 newId))
    (hq : R (.ok (.ret (.ref (g0.objs.size + 1)))) ⟨(g0.push (kdv_tup rest)).push (excO C g0.objs.size), gs, dr, tk0, oz⟩) (hz : rest.length ≤ sizeLine) :
    codeAny (model prog w) A (.builtin newId ⟨.ref C :: rest, kw⟩) R ⟨g0, gs, dr, tk0, oz⟩ := by
  have he := F.ends
  have hB : (Value.ref C :: bm).contains (.type B) = true := by
    rw [List.contains_cons, hT, F.hasB, Bool.or_true]
  have hA : (Value.ref C :: bm).contains (.type "AttributeError") = false := by
    rw [List.contains_cons, hT, F.noAttr]
    rfl
  have hN : (Value.ref C :: bm).contains (.type "NameError") = false := by
    rw [List.contains_cons, hT, F.noName]
    rfl
  refine codeAny_builtinAt F.entry ?_
  unfold Builtin.«BaseException.__new__»
  refine _root_.PySem.wpAt_bind ?_
  show _root_.PySem.wpAt _ _ _ (stack >>= _) _ _ _
  refine _root_.PySem.wpAt_bind (_root_.PySem.wpAt_stack fun p below => _root_.PySem.wpAt_of_wpAny ?_)
  wp_walk
  refine _root_.PySem.wpAt_of_wpAny ?_
  rw [F.owner]
  repeat (first | with_reducible refine wpAny_madeHere_exc F.canon hC ?_ | with_reducible refine wpAny_loadPart_at hC ?_ | (with_reducible refine wpAny_isSubtype_exc hC ?_; first | rw [hB] | rw [hA] | rw [hN]) | wp_step)
  show R _ _
  rw [Heap.size_push]
  exact hq
theorem kw_type (F : ExcBaseFacts B newId initId bmB) (hT : ∀ y : String, bm.contains (.type y) = bmB.contains (.type y)) {rest : List Value} {kw : List (Str × Value)} {fI : Addr} {Q : Fin → Shared → Prop}
    (hC : g0.get? C = some (excClassObj nm qn C N bs bm hdct sn sub ab col dd k0 k1 k2 k3 k5 newId))
    (hi : Looks (model prog w) g0 (typeLookup (.ref C) "__init__") (some (.ref fI))) (hb : ∀ self, Looks (model prog w) g0 (bindSpecial (.ref fI) self) (.ref fI, [self])) (hz : rest.length ≤ sizeLine)
    (hq : codeAny (model prog w) A (.call (.ref fI) ⟨.ref (g0.objs.size + 1) :: rest, kw⟩)
      (fun r s' => match r with | .ok (.ret v) => v = .none ∧ Q (.done (.ret (.ref (g0.objs.size + 1)))) s' | .ok _ => False | .error e => E e s')
      ⟨(g0.push (kdv_tup rest)).push (excO C g0.objs.size), gs, dr, tk0, oz⟩) :
    wpAny (model prog w) A (Builtin.«type.__call__» ⟨.ref C :: rest, kw⟩) Q E ⟨g0, gs, dr, tk0, oz⟩ := by
  repeat (first | with_reducible refine wpAny_loadPart_at hC ?_ | with_reducible refine wpAny_madeBy_exc hC ?_ | wp_step)
  refine codeAny_call_builtin_code (Code.quiet_builtin _ F.quiet) (kw_check F hT hC ?_)
  refine kw_new F hT hC ?_ hz
  show wpAny _ _ _ _ _ _
  have k : ∀ b o, g0.get? b = some o → ((g0.push (kdv_tup rest)).push (excO C g0.objs.size)).get? b = some o := fun b o e => Heap.get?_push_of_some _ (Heap.get?_push_of_some _ e)
  have hC₁ := k _ _ hC
  have hget : ((g0.push (kdv_tup rest)).push (excO C g0.objs.size)).get? (g0.objs.size + 1) = some (excO C g0.objs.size) := by heap_get
  have hCC : (Value.ref C :: bm).contains (.ref C) = true := by simp
  have i1 := hi.keeps k
  have b1 := (hb (.ref (g0.objs.size + 1))).keeps k
  unfold isInstance
  repeat (first | with_reducible refine wpAny_loadPart_at hget ?_ | (with_reducible refine wpAny_isSubtype_exc hC₁ ?_; rw [hCC]) | wp_step)
  show wpAny _ _ (typeLookup (.ref C) _) _ _ _
  refine i1.at ?_
  refine wpAny_holding (wpAny_bind (b1.at ?_))
  refine wpAny_bind (wpAny_call (codeAny_mono hq fun r s' z => ?_))
  rcases r with e | (v | _ | _ | _) <;> first | exact z | exact z.elim | skip
  obtain ⟨rfl, z⟩ := z
  first
    | exact wpAny_pure (wpAny_pure z)
    | (wp_walk; exact z)
theorem kw_call (F : ExcBaseFacts B newId initId bmB) (hT : ∀ y : String, bm.contains (.type y) = bmB.contains (.type y)) {rest : List Value} {kw : List (Str × Value)} {fI : Addr}
    (hC : g0.get? C = some (excClassObj nm qn C N bs bm hdct sn sub ab col dd k0 k1 k2 k3 k5 newId))
    (hi : Looks (model prog w) g0 (typeLookup (.ref C) "__init__") (some (.ref fI))) (hb : ∀ self, Looks (model prog w) g0 (bindSpecial (.ref fI) self) (.ref fI, [self])) (hz : rest.length ≤ sizeLine)
    (hq : codeAny (model prog w) (A.under (.builtin "type.__call__" ⟨.ref C :: rest, kw⟩)) (.call (.ref fI) ⟨.ref (g0.objs.size + 1) :: rest, kw⟩) (InitBack (g0.objs.size + 1) R)
      ⟨(g0.push (kdv_tup rest)).push (excO C g0.objs.size), gs, dr, tk0, oz⟩) :
    codeAny (model prog w) A (.call (.ref C) ⟨rest, kw⟩) R ⟨g0, gs, dr, tk0, oz⟩ := by
  have f1 := tc_lookup
  have f2 := tc_bind (.ref C)
  have hTy : (⟨g0, gs, dr, tk0, oz⟩ : Shared).TypeIs (.ref C) "type" := ⟨_, hC, rfl⟩
  refine codeAny_of_tree ?_
  show wpAny _ _ (callAny (.ref C) _) _ _ _
  repeat (any_goals (first | assumption | with_reducible refine wpAny_loadPart_at hC ?_ | wp_step))
  refine ⟨rfl, ?_⟩
  refine codeAny_call_builtin_at (Code.quiet_builtin _ (by decide +kernel)) entry_typeCall (wpAny_check_type_call_sub hC (kw_type F hT hC hi hb hz ?_))
  refine codeAny_mono hq fun r s' z => ?_
  rcases r with e | (v | _ | _ | _) <;> exact z
end
end Fx
set_option Elab.async false
set_option linter.all false
set_option maxRecDepth 100000
set_option maxHeartbeats 4000000
namespace Fx
open PySem L2
open PySem.W (Frag)
/-- what the walk asks of a class of errors with one attribute f -/
structure Err1 (prog : Program) (K : Frag) (mg : Str → Option Value) (newId initId : String) (bmB : List Value) (C W fI : Addr) (f : Str) : Prop where
  t : ErrT K mg newId initId bmB C W fI
  n : Fn1 prog K C fI f
  no : PySem.W.findIn K (.ref C) f = some none
  ff : f = "given" ∨ f = "index"
section
variable {X : Cx} {pins : List (Addr × Obj)} {σ : St} {H : Hp} {s : Shared} {B newId initId : String} {bmB : List Value} {C W fI : Addr} {f : Str} {k : Nat}
theorem hT_of (Z : Root B newId initId bmB) (W : Addr) : ∀ y : String, (Value.ref W :: bmB).contains (.type y) = bmB.contains (.type y) := fun y => by
  rw [List.contains_cons]
  rfl
/-- what stands new: the error at a, its dict at d -/
theorem err_laid (I : Inv X pins σ H s) {h' : Heap} {a d t1 : Addr} {mA : Str → Option Value} {fs : List (Str × V)} {tk : Nat} (k : ∀ b o, s.heap.get? b = some o → h'.get? b = some o) (ha : s.heap.objs.size ≤ a) (hd : s.heap.objs.size ≤ d) (ne : d ≠ a)
    (ea : h'.get? a = some (excD C t1 (some d))) (ed : h'.Ns1 d mA) (rel : ∀ g, RelO (fs.lookup g) (mA g)) :
    H a = none ∧ H d = none ∧ Inv X pins σ (upd (upd H d (exd d fs)) a (exo a C (some d))) { s with heap := h', toks := tk } := by
  have na : H a = none := I.hok.fresh ha
  have nd : H d = none := I.hok.fresh hd
  have la : ∀ {b : Addr} {o : Obj}, s.heap.get? b = some o → b ≠ a := fun {b o} q => Nat.ne_of_lt (Nat.lt_of_lt_of_le (Heap.lt_size q) ha)
  have ld : ∀ {b : Addr} {o : Obj}, s.heap.get? b = some o → b ≠ d := fun {b o} q => Nat.ne_of_lt (Nat.lt_of_lt_of_le (Heap.lt_size q) hd)
  have up : ∀ {b : Addr}, b ≠ a → b ≠ d → (upd (upd H d (exd d fs)) a (exo a C (some d))) b = H b := fun {b} h1 h2 => by
    rw [upd_ne h1, upd_ne h2]
  have us : ∀ {b : Addr} {o : HO}, H b = some o → (upd (upd H d (exd d fs)) a (exo a C (some d))) b = some o := fun {b o} q => by
    rw [up (ne_of_none q na) (ne_of_none q nd)]
    exact q
  refine ⟨na, nd, I.un (t' := tk) ⟨fun b o q _ _ _ => k b o q, fun b o q _ _ _ => ⟨o.slots, k b o q⟩, fun b o q n _ => ?_, fun b o q _ => ⟨o, k b o q⟩, fun b xs q => us q, fun b o v q => us q, fun b ps q => ⟨#[], by rw [us q]; simp⟩⟩ fun b o q => ?_⟩
  · rw [up (la q) (ld q)]
    exact n
  · by_cases h1 : b = a
    · subst h1
      rw [upd_same] at q
      cases q
      exact exo_ok ea
    · rw [upd_ne h1] at q
      by_cases h2 : b = d
      · subst h2
        rw [upd_same] at q
        cases q
        exact exd_ok ed rel
      · rw [upd_ne h2] at q
        exact (I.hok b o q).stay (fun c v _ z => k c v z) (fun c z => us z) fun c xs z => us z
theorem run_err (Z : Root B newId initId bmB) (T : Err1 X.prog X.K X.mg newId initId bmB C W fI f) (hr : Room (k + 1) X.A) (I : Inv X pins σ H s) {y : V} {u : Value} (ry : RelV y u) {pos : List Value} {kw : List (Str × Value)}
    (ha : (pos = [u] ∧ kw = []) ∨ (pos = [] ∧ kw = [(f, u)])) {Q : VK} (h : ∀ a d, H a = none → H d = none → d ≠ a → Q (.ref a) (upd (upd H d (exd d [(f, y)])) a (exo a C (some d)))) :
    wpAny (model X.prog X.w) X.A (call (.ref C) pos kw) (EP X pins σ Q) X.xe s := by
  obtain ⟨nm, q, N, bs, sn, sub, ab, col, dd, k0, k1, k2, k3, k5, hC⟩ := T.t.cls
  obtain ⟨hp, g, dr, tk, os⟩ := s
  have kk : ∀ b o, hp.get? b = some o → ((hp.push (PySem.W.kdv_tup pos)).push (PySem.HandSPX.excO C hp.objs.size)).get? b = some o := fun b o e => Heap.get?_push_of_some _ (Heap.get?_push_of_some _ e)
  have hget : ((hp.push (PySem.W.kdv_tup pos)).push (PySem.HandSPX.excO C hp.objs.size)).get? (hp.objs.size + 1) = some (PySem.HandSPX.excO C hp.objs.size) := by heap_get
  have hz : pos.length ≤ sizeLine := by
    rw [sizeLine_eq]
    rcases ha with ⟨rfl, _⟩ | ⟨rfl, _⟩
    · show 1 ≤ 16777216
      decide
    · show 0 ≤ 16777216
      decide
  have nb : X.base.get? (hp.objs.size + 1) = none := by
    cases e : X.base.get? (hp.objs.size + 1) with
    | none => rfl
    | some o =>
      have z : hp.get? (hp.objs.size + 1) = some o := I.bk _ _ e
      exact absurd (Nat.lt_of_succ_lt (Heap.lt_size z)) (Nat.lt_irrefl _)
  have args : (Args.mk (Value.ref (hp.objs.size + 1) :: pos) kw) = ⟨[.ref (hp.objs.size + 1), u], []⟩ ∨ (Args.mk (Value.ref (hp.objs.size + 1) :: pos) kw) = ⟨[.ref (hp.objs.size + 1)], [(f, u)]⟩ := by
    rcases ha with ⟨rfl, rfl⟩ | ⟨rfl, rfl⟩
    · exact .inl rfl
    · exact .inr rfl
  refine wpAny_call (kw_call Z.fb (hT_of Z W) (I.kIn _ _ hC) (PySem.W.looks_findIn I.kIn T.t.iC) (fun self => PySem.W.bind_fn I.kIn self T.t.tI) hz ?_)
  refine init1 (s := ⟨(hp.push (PySem.W.kdv_tup pos)).push (PySem.HandSPX.excO C hp.objs.size), g, dr, tk, os⟩) Z T.t I.ok.mod (fun b o e => kk b o (I.bk b o e)) T.ff T.no T.n args hget nb ?_ fun h' tk' dx t1 k1 e1 dn dne hn => ?_
  · rw [make_depth]
    have := hr.dp
    omega
  · have old : ∀ b o, hp.get? b = some o → h'.get? b = some o := fun b o e => k1 b o (Nat.ne_of_lt (Nat.lt_succ_of_lt (Heap.lt_size e))) (kk b o e)
    have sz : hp.objs.size ≤ dx := by
      have z : ((hp.push (PySem.W.kdv_tup pos)).push (PySem.HandSPX.excO C hp.objs.size)).objs.size ≤ dx := dn
      rw [Heap.size_push, Heap.size_push] at z
      omega
    obtain ⟨na, nd, J⟩ := err_laid (fs := [(f, y)]) (tk := tk') I old (Nat.le_succ _) sz dne e1 hn (relO_put (fs := []) (mA := fun _ => none) ry fun g => True.intro)
    exact ⟨rfl, .ref (hp.objs.size + 1), _, J, rfl, h _ _ na nd dne⟩
end
end Fx
set_option Elab.async false
set_option linter.all false
set_option maxRecDepth 100000
set_option maxHeartbeats 4000000
namespace Fx
open PySem L2
open PySem.W (Frag)
section
variable {X : Cx} {pins : List (Addr × Obj)} {σ : St} {H : Hp} {s : Shared} {B newId initId : String} {bmB : List Value} {C W fI : Addr} {f : Str} {k : Nat} {x : Str} {p pos kpos : Pos} {e : Expr} {te : TE}
/-- C(e), C(f=e): a new error at a, its dict at d -/
def tErr (C : Addr) (f : Str) (te : TE) : TE := fun σ H Q => te σ H fun y H1 => ∀ a d, H1 a = none → H1 d = none → d ≠ a → Q (.ref a) (upd (upd H1 d (exd d [(f, y)])) a (exo a C (some d)))
theorem pe_err (Z : Root B newId initId bmB) (T : Err1 X.prog X.K X.mg newId initId bmB C W fI f) (hr : Room (k + 1) X.A) (gC : X.mg x = some (.ref C)) (hg : Gl X x) (he : PE X e te) (hs : starEach [e] X.env = (false, eval e X.env) :: starEach [] X.env := by rfl)
    (hdb : (x == ("__debug__" : Str)) = false := by decide) : PE X (.Call (.Name x p) [e] [] pos) (tErr C f te) := by
  refine ⟨fun pins s σ H Q I h => ?_⟩
  refine wpAny_Call_Name_kw (ld_glob I hg gC ?_ hdb)
  refine PySem.W.callWith_K (h₀ := X.base) I.ok.mod.kin T.t.kC ?_ hs (by rfl)
  rw [hs]
  show wpAny _ _ (spliced ((false, eval e X.env) :: backTo pos (starEach [] X.env))) _ _ s
  refine Calls.spliced_cons (thn (he.run pins s σ H _ I h) fun u s1 ⟨y, H1, I1, r1, q1⟩ => ?_)
  refine Calls.spliced_nil ⟨I1.kIn, ?_⟩
  exact run_err Z T hr I1 r1 (.inl ⟨rfl, rfl⟩) q1
theorem pe_errK (Z : Root B newId initId bmB) (T : Err1 X.prog X.K X.mg newId initId bmB C W fI f) (hr : Room (k + 1) X.A) (gC : X.mg x = some (.ref C)) (hg : Gl X x) (he : PE X e te)
    (hdb : (x == ("__debug__" : Str)) = false := by decide) : PE X (.Call (.Name x p) [] [⟨some f, e, kpos⟩] pos) (tErr C f te) := by
  refine ⟨fun pins s σ H Q I h => ?_⟩
  refine wpAny_Call_Name_kw (ld_glob I hg gC ?_ hdb)
  refine PySem.W.callWith_KW0 (h₀ := X.base) I.ok.mod.kin T.t.kC (by rfl) ?_ (by rfl)
  have hk : PK X [⟨some f, e, kpos⟩] (tCons te tNil) := pk_cons he pk_nil
  refine thn (hk.run pos pins s σ H (fun vs H1 => match vs with | [y] => ∀ a d, H1 a = none → H1 d = none → d ≠ a → Q (.ref a) (upd (upd H1 d (exd d [(f, y)])) a (exo a C (some d))) | _ => False) I h) fun us s1 ⟨vs, H1, I1, r1, q1⟩ => ⟨I1.kIn, ?_⟩
  cases r1 with
  | nil => exact q1.elim
  | cons ry rn =>
    cases rn with
    | nil => exact run_err Z T hr I1 ry (.inr ⟨rfl, rfl⟩) q1
    | cons r2 rn => exact q1.elim
end
/-- an error stands at a -/
def IsE (H : Hp) (a C : Addr) : Prop := (∃ dd fs, H a = some (exo a C (some dd)) ∧ H dd = some (exd dd fs)) ∨ H a = some (exo a C none) ∨ H a = some (ExO (.ref C) a)
/-- what the class says, so that isinstance asks its errors rightly -/
structure IsC (K : Frag) (C : Addr) : Prop where
  cl : (PySem.W.clsIn K C).isSome = true
  ga : PySem.W.findIn K (.ref C) "__getattribute__" = some (some (.builtin "BaseException.__getattribute__"))
  gg : PySem.W.findIn K (.ref C) "__getattr__" = some none
  ex : PySem.W.subIn K (.ref C) (.type "BaseException") = some true
  ha : PySem.W.findIn K (.ref C) "__class__" = some (some (.builtin "object.__class__"))
  hn : PySem.W.specialIn K (.builtin "object.__class__") "__get__" = some (some (.builtin "getset_descriptor.__get__"))
  ht : PySem.W.takesIn K (.builtin "object.__class__") = some true
  hm : PySem.W.mroIn K C (.type "object") = some true
section
variable {X : Cx} {pins : List (Addr × Obj)} {σ : St} {H : Hp} {s : Shared} {a C : Addr}
theorem isE_inst (I : Inv X pins σ H s) (h : IsE H a C) : ∃ ox od, PySem.W.InstAt s.heap a ox C od := by
  rcases h with ⟨dd, fs, h1, h2⟩ | h1 | h1
  · obtain ⟨t1, e1⟩ := exo_at I.hok h1
    obtain ⟨mA, ⟨od, es, ep, e2, _⟩, _⟩ := exd_at I.hok h2
    exact ⟨_, some od, e1, rfl, rfl, e2⟩
  · obtain ⟨t1, e1⟩ := exo_at I.hok h1
    exact ⟨_, none, e1, rfl, rfl, trivial⟩
  · have z : ObjOk X.prog X.w H s.heap a (ExO (.ref C) a) := I.hok a _ h1
    obtain ⟨⟨oe, vs, ho, hz, hd, _⟩, _, _⟩ := z
    obtain ⟨oc, od, oda, osl⟩ := oe
    obtain ⟨z1, z2⟩ := hz
    dsimp only at z1 z2 hd
    subst z1 z2 hd
    exact ⟨_, none, ho, rfl, rfl, trivial⟩
/-- isinstance(e, c), e an error -/
def rIsE (K : Frag) : List V → Hp → VK → Prop := fun xs H Q => ∃ (a C : Addr) (c : V) (u : Value) (b : Bool), xs = [.ref a, c] ∧ ClsV c u ∧ IsE H a C ∧ IsC K C ∧ PySem.W.kitOne K (.ref C) u = some b ∧ Q (.bl b) H
theorem call_isE {X : Cx} : CallR X (.builtin "isinstance") (rIsE X.K) := by
  intro pins s σ H xs us Q I r h
  obtain ⟨a, C, c, u, b, rfl, kc, ie, T, e, q⟩ := h
  obtain ⟨u1, u2, rfl, r1, r2⟩ := vals2 r
  have e2 := kc.eq r2
  subst e2
  cases (show u1 = Value.ref a from r1)
  obtain ⟨ox, od, J⟩ := isE_inst I ie
  exact PySem.W.kia_one (PySem.W.kitx_exc (gt := none) T.cl T.ga T.gg T.ex T.ha T.hn T.ht T.hm) I.kIn J e (fun z => nomatch z) fun tk => ⟨.bl b, H, I.tok tk, rfl, q⟩
/-- e.f, e an error with a dict -/
def tEf (K : Frag) (f : Str) (te : TE) : TE := fun σ H Q => te σ H fun x H1 => ∃ (a C dd : Addr) (fs : List (Str × V)) (v : V), x = .ref a ∧ H1 a = some (exo a C (some dd)) ∧ H1 dd = some (exd dd fs) ∧ fs.lookup f = some v ∧ XfC K C ∧ PySem.W.findIn K (.ref C) f = some none ∧ Q v H1
theorem pe_ef {X : Cx} {e : Expr} {te : TE} {pos : Pos} {n : Str} (he : PE X e te) (hb : attributeBase e n X.env (eval e X.env) = eval e X.env := by rfl) : PE X (.Attribute e n pos) (tEf X.K n te) := by
  refine ⟨fun pins s σ H Q I h => ?_⟩
  refine attr_of hb (thn (he.run pins s σ H _ I h) fun u s1 hh => ?_)
  obtain ⟨x, H1, I1, rx, a, C, dd, fs, v, ex, ea, ed, l, T, hno, q⟩ := hh
  subst ex
  obtain rfl : u = Value.ref a := rx
  obtain ⟨t1, e1⟩ := exo_at I1.hok ea
  obtain ⟨mA, hns, hr⟩ := exd_at I1.hok ed
  obtain ⟨od, ho, hl⟩ := lookIn_ns hns
  obtain ⟨u, hu, ru⟩ := RelO.some_of (v := v) (o := mA n) (by rw [← l]; exact hr n)
  have J : PySem.W.InstAt s1.heap a _ C (some od) := ⟨e1, rfl, rfl, ho⟩
  exact HandSPX.exc_get I1.kIn J T.ga T.gg T.exC (PySem.W.findObj_own T.hdC hno rfl (by rw [hl, hu])) (handed_of ru) ⟨v, H1, I1.tok _, ru, q⟩
end
end Fx
set_option Elab.async false
set_option linter.all false
set_option maxRecDepth 100000
set_option maxHeartbeats 4000000
namespace Fx
open PySem PySem.W PySem.Calls PyProof.Rows PySem.HandSPX
open Builtin Builtin.ObjectAttr
/-- an __init__ without parameters -/
def Fn0 (prog : Program) (K : Frag) (C fI : Addr) : Prop := ∃ (oc : Value) (od : Option Addr) (qual msg : Str) (kM : Nat) (kV doc pm : Value) (an : Option Addr) (cda cc : Addr) (ct : Value) (osl : Array (Option Value)) (p1 q1 q2 q3 q4 q5 q6 : Pos) (vs : Array Value) (file : Str) (tf : Tok) (ccl cl : Value) (cdd cld : Option Addr) (ccs csl : Array (Option Value)),
    K.lookup fI = some ⟨oc, od, .func (ksFn "__init__" qual (iA0 p1) [iSup msg kM q1 q2 q3 q4 q5 q6] iS0 .none kV doc pm an (.ref cda) ct cc), osl⟩ ∧ codeIn K (.ref cda) qual = true ∧
    K.lookup cda = some ⟨ccl, cdd, .fields vs, ccs⟩ ∧ vs[2]? = some (.str file tf) ∧ ((prog.main.file : Str) == file) = true ∧ K.lookup cc = some ⟨cl, cld, .cell (some (.ref C)), csl⟩ ∧ (prog.main.scope.names.lookup ("super" : Str)).isSome = false ∧ (q3.endLine == q5.line) = true
section
variable {prog : Program} {w : World} {A : Around} {R : Result → Shared → Prop} {s : Shared} {B newId initId : String} {bmB : List Value} {K : Frag} {mg : Str → Option Value} {base : Heap} {C W fI : Addr}
theorem init0 (Z : Root B newId initId bmB) (T : ErrT K mg newId initId bmB C W fI) (M : L2.Mod K mg base) (kb : ∀ b o, base.get? b = some o → s.heap.get? b = some o)
    (N : Fn0 prog K C fI) {x t0 : Addr} (hx : s.heap.get? x = some (excO C t0)) (hroom : A.depth < recursionLimit)
    (hq : ∀ h' tk t1, (∀ b o, b ≠ x → s.heap.get? b = some o → h'.get? b = some o) → h'.get? x = some (excD C t1 none) → R (.ok (.ret .none)) { s with heap := h', toks := tk }) :
    codeAny (model prog w) A (.call (.ref fI) ⟨[.ref x], []⟩) R s := by
  obtain ⟨oc, od, qual, msg, kM, kV, doc, pm, an, cda, cc, ct, osl, p1, q1, q2, q3, q4, q5, q6, vs, file, tf, ccl, cl, cdd, cld, ccs, csl, lf, lcd, lc, hvs, hfile, lcell, htop, hl1⟩ := N
  have X : K.In s.heap := M.kin.keeps kb
  refine ks_codeAny_call_defAt (fd := ksFn "__init__" qual (iA0 p1) [iSup msg kM q1 q2 q3 q4 q5 q6] iS0 .none kV doc pm an (.ref cda) ct cc) (body := [iSup msg kM q1 q2 q3 q4 q5 q6]) (binds := [("self", .ref x)]) hroom (X _ _ lf) rfl (M.nolimit.keeps kb) (codeRec_of X lcd) rfl (.of_eq rfl) cellS0 (locS0 _) (fun h₁ hns hk₁ => ?_) rfl rfl rfl
  refine ks_wpAt_execs_cons (sup_stmt Z T M (fun b o e => hk₁ b o (kb b o e)) lf rfl rfl lc hvs hfile lcell htop rfl rfl rfl hl1 rfl rfl hns (m := fun y => [((PySem.Str.ofString "self" : Str), Value.ref x)].reverse.lookup y) (by rfl) (hk₁ _ _ hx) fun h₂ tk₂ t2 k₂ e₂ => ?_)
  refine _root_.PySem.wpAt_of_wpAny ?_
  exact wpAny_execs_nil (hq h₂ tk₂ t2 (fun b o hb e => k₂ b o hb (hk₁ b o e)) e₂)
end
end Fx
namespace Fx
open PySem L2
open PySem.W (Frag)
section
variable {X : Cx} {pins : List (Addr × Obj)} {σ : St} {H : Hp} {s : Shared} {B newId initId : String} {bmB : List Value} {C W fI : Addr} {k : Nat} {x : Str} {p pos : Pos}
/-- C(), C's __init__ without parameters -/
theorem pe_err0 (Z : Root B newId initId bmB) (T : ErrT X.K X.mg newId initId bmB C W fI) (N : Fn0 X.prog X.K C fI) (hr : Room (k + 1) X.A) (gC : X.mg x = some (.ref C)) (hg : Gl X x)
    (hdb : (x == ("__debug__" : Str)) = false := by decide) : PE X (.Call (.Name x p) [] [] pos) (fun σ H Q => ∀ a, H a = none → Q (.ref a) (upd H a (exo a C none))) := by
  refine ⟨fun pins s σ H Q I h => ?_⟩
  refine wpAny_Call_Name_kw (ld_glob I hg gC ?_ hdb)
  refine PySem.W.callWith_K0 I.kIn T.kC ?_
  obtain ⟨nm, q, N', bs, sn, sub, ab, col, dd, k0, k1, k2, k3, k5, hC⟩ := T.cls
  obtain ⟨hp, g, dr, tk, os⟩ := s
  have kk : ∀ b o, hp.get? b = some o → ((hp.push (PySem.W.kdv_tup [])).push (PySem.HandSPX.excO C hp.objs.size)).get? b = some o := fun b o e => Heap.get?_push_of_some _ (Heap.get?_push_of_some _ e)
  have hget : ((hp.push (PySem.W.kdv_tup [])).push (PySem.HandSPX.excO C hp.objs.size)).get? (hp.objs.size + 1) = some (PySem.HandSPX.excO C hp.objs.size) := by heap_get
  show wpAny _ _ (call (.ref C) []) _ _ _
  refine wpAny_call (kw_call Z.fb (hT_of Z W) (I.kIn _ _ hC) (PySem.W.looks_findIn I.kIn T.iC) (fun self => PySem.W.bind_fn I.kIn self T.tI) (by show 0 ≤ sizeLine; exact Nat.zero_le _) ?_)
  refine init0 (s := ⟨(hp.push (PySem.W.kdv_tup [])).push (PySem.HandSPX.excO C hp.objs.size), g, dr, tk, os⟩) Z T I.ok.mod (fun b o e => kk b o (I.bk b o e)) N hget ?_ fun h' tk' t1 k1 e1 => ?_
  · rw [make_depth]
    have := hr.dp
    omega
  · have old : ∀ b o, hp.get? b = some o → h'.get? b = some o := fun b o e => k1 b o (Nat.ne_of_lt (Nat.lt_succ_of_lt (Heap.lt_size e))) (kk b o e)
    have na : H (hp.objs.size + 1) = none := I.hok.fresh (Nat.le_succ _)
    exact ⟨rfl, .ref (hp.objs.size + 1), _, I.laid (t' := tk') (a := hp.objs.size + 1) (o := exo (hp.objs.size + 1) C none) old (Nat.le_succ _) (exo_ok e1), rfl, h _ na⟩
/-- C(), C without an __init__ of its own -/
theorem pe_exc0 {bm0 : List Value} (F : ExcBaseFacts B newId initId bm0) (q : PySem.W.excIn X.K C bm0 newId = true) (gC : X.mg x = some (.ref C)) (kC : PySem.W.keepIn X.K (.ref C) = true) (hg : Gl X x)
    (hdb : (x == ("__debug__" : Str)) = false := by decide) : PE X (.Call (.Name x p) [] [] pos) (fun σ H Q => ∀ a, H a = none → Q (.ref a) (upd H a (ExO (.ref C) a))) := by
  refine ⟨fun pins s σ H Q I h => ?_⟩
  refine wpAny_Call_Name_kw (ld_glob I hg gC ?_ hdb)
  refine PySem.W.callWith_K0 I.kIn kC ?_
  show wpAny _ _ (call (.ref C) []) _ _ _
  obtain ⟨bm, N, nm, qn, bs, hdct, sn, sub, ab, col, dd, k0, k1, k2, k3, k5, mN, hC, hN, hni, T⟩ := exc_obj I.kIn q
  refine wpAny_call_exc_subT F T hC hN hni (fun h' a hm => ?_) (Nat.zero_le _)
  have hn : H a = none := I.hok.gone hm.new
  obtain ⟨t, ht, _, _⟩ := hm.there
  exact ⟨.ref a, upd H a (ExO (.ref C) a), I.laidN hm.keeps hm.new hn (exO_ok ht ⟨rfl, rfl⟩ rfl rfl rfl (show 4 < 6 by decide)), rfl, h a hn⟩
end
end Fx
set_option Elab.async false
set_option linter.all false
set_option maxRecDepth 100000
set_option maxHeartbeats 4000000
namespace Rl
open PySem PySem.Spec PyProof.Rows L2 Gd
/-! rules whose readings say of a new object only that it stands, and that all stands that stood -/
theorem same_new {H : Hp} {p : Addr} {o : HO} (n : H p = none) : Same H (upd H p o) := fun b u e => by
  rw [upd_ne (ne_of_none e n)]
  exact e
theorem Same.seqT {K : PySem.W.Frag} {H H' : Hp} {a : Addr} {xs : List V} (e : Same H H') (h : SqT K H a xs) : SqT K H' a xs := by
  rcases h with (h | ⟨o, h⟩) | h
  · exact .inl (.inl (e _ _ h))
  · exact .inl (.inr ⟨o, e _ _ h⟩)
  · exact .inr h
mutual
theorem dp_same {K : PySem.W.Frag} {H H' : Hp} (e : Same H H') : ∀ (d : PyData) {v : V}, Dp K H v d → Dp K H' v d
  | .none, _, h => by cases h; exact .non
  | .bool b, _, h => by cases h; exact .bl b
  | .int i, _, h => by cases h; exact .int i
  | .str z, _, h => by cases h; exact .str z
  | .list ds, _, h => by
    cases h with
    | lst hs ha => exact .lst (e.seq hs) (dp_sameAll e ds ha)
  | .tuple ds, _, h => by
    cases h with
    | tup hs ha => exact .tup (Same.seqT e hs) (dp_sameAll e ds ha)
  | .dict _, _, h => by cases h
theorem dp_sameAll {K : PySem.W.Frag} {H H' : Hp} (e : Same H H') : ∀ (ds : List PyData) {vs : List V}, DpAll K H vs ds → DpAll K H' vs ds
  | [], _, h => by cases h; exact .nil
  | d :: ds, _, h => by
    cases h with
    | cons h1 h2 => exact .cons (dp_same e d h1) (dp_sameAll e ds h2)
end
theorem rp_same {K : PySem.W.Frag} {H H' : Hp} (e : Same H H') {d : PyData} {v : V} (h : Rp K H v d) : Rp K H' v d := by
  rcases h with h | ⟨a, kvs, ds, rfl, ha, hp, rfl⟩
  · exact .inl (dp_same e d h)
  · exact .inr ⟨a, kvs, ds, rfl, e _ _ ha, hp, rfl⟩
/-- a new object o at p -/
def New (H : Hp) (p : Addr) (o : HO) (H' : Hp) : Prop := H p = none ∧ H' p = some o ∧ Same H H'
theorem New.mk' {H : Hp} {p : Addr} {o : HO} (n : H p = none) : New H p o (upd H p o) := ⟨n, upd_same, same_new n⟩
def tTupR (t : TA) : TE := fun σ H Q => t σ H fun xs H1 => xs.length ≤ 1000 ∧ ∀ p H2, New H1 p (.tup xs) H2 → Q (.ref p) H2
def tLstR (t : TA) : TE := fun σ H Q => t σ H fun xs H1 => xs.length ≤ 1000 ∧ ∀ p H2, New H1 p (.lst xs) H2 → Q (.ref p) H2
section
variable {X : Cx} {es : List Expr} {t : TA} {pos : Pos}
theorem sz1000 {n : Nat} (h : n ≤ 1000) : n ≤ sizeLine := Nat.le_of_lt (small1000 h)
theorem pe_tupR {x1} (h : PA X es t) : PE X (.Tuple es x1 pos) (tTupR t) := by
  refine ⟨fun pins s σ H Q I hq => ?_⟩
  refine wpAny_Tuple_spliced (thn (h.run pos pins s σ H _ I hq) fun us s1 ⟨xs, H1, I1, r, z, q⟩ => ⟨by rw [← r.length]; exact sz1000 z, ?_⟩)
  have hf : H1 s1.heap.objs.size = none := I1.hok.fresh (Nat.le_refl _)
  exact ⟨.ref s1.heap.objs.size, upd H1 s1.heap.objs.size (.tup xs), I1.laid (t' := s1.toks) (fun b u e => Heap.get?_push_of_some _ e) (Nat.le_refl _) ⟨sz1000 z, us, r, ⟨_, Heap.get?_push_size _ rfl, rfl, _, rfl⟩⟩, rfl, q _ _ (.mk' hf)⟩
theorem pe_lstR (h : PA X es t) : PE X (.List es pos) (tLstR t) := by
  refine ⟨fun pins s σ H Q I hq => ?_⟩
  refine wpAny_List_spliced (thn (h.run pos pins s σ H _ I hq) fun us s1 ⟨xs, H1, I1, r, z, q⟩ => ⟨by rw [← r.length]; exact sz1000 z, ?_⟩)
  have hf : H1 s1.heap.objs.size = none := I1.hok.fresh (Nat.le_refl _)
  exact ⟨.ref s1.heap.objs.size, upd H1 s1.heap.objs.size (.lst xs), I1.laid (t' := s1.toks) (fun b u e => Heap.get?_push_of_some _ e) (Nat.le_refl _) ⟨sz1000 z, us, 0, r, Heap.get?_push_size _ rfl⟩, rfl, q _ _ (.mk' hf)⟩
theorem pe_dnewR : PE X (.Dict [] [] pos) (fun σ H Q => ∀ p H2, New H p (.dK []) H2 → Q (.ref p) H2) :=
  ⟨fun pins s σ H Q I h => pe_dnewK.run pins s σ H Q I fun p np => h p _ (.mk' np)⟩
def rCatR : R2 := fun x y H Q => ∃ l b xs zs, x = .ref l ∧ y = .ref b ∧ H l = some (.lst xs) ∧ H b = some (.lst zs) ∧ xs.length + zs.length ≤ 1000 ∧ ∀ p H2, New H p (.lst (xs ++ zs)) H2 → Q (.ref p) H2
theorem op_catR : OpR X (binaryOp .Add) rCatR := by
  intro pins s σ H x y v u Q I rx ry h
  obtain ⟨l, b, xs, zs, e1, e2, h1, h2, z, q⟩ := h
  exact op_cat pins s σ H x y v u Q I rx ry ⟨l, b, xs, zs, e1, e2, h1, h2, sz1000 z, fun p np => q p _ (.mk' np)⟩
def rRepR : R2 := fun x y H Q => ∃ l k xs, x = .ref l ∧ y = .int k ∧ H l = some (.lst xs) ∧ 0 ≤ k ∧ k ≤ 100 ∧ xs.length * k.toNat ≤ 1000 ∧ ∀ p H2, New H p (.lst (List.replicate k.toNat xs).flatten) H2 → Q (.ref p) H2
theorem op_repR : OpR X (binaryOp .Mult) rRepR := by
  intro pins s σ H x y v u Q I rx ry h
  obtain ⟨l, k, xs, e1, e2, h1, h2, h3, z, q⟩ := h
  exact op_rep pins s σ H x y v u Q I rx ry ⟨l, k, xs, e1, e2, h1, by omega, by omega, sz1000 z, fun p np => q p _ (.mk' np)⟩
def rSlR (K : PySem.W.Frag) : V → Option Int → Option Int → Hp → VK → Prop := fun x lo hi H Q => ∃ a xs, x = .ref a ∧ SqL K H a xs ∧ ∀ p H2, New H p (.lst (cutV xs lo hi)) H2 → Q (.ref p) H2
theorem sl_listR : SlR X (rSlR X.K) := by
  intro pins s σ H x v vl vu lo hi sl Q I rx hs pl pu h
  obtain ⟨a, xs, e1, h1, q⟩ := h
  exact sl_list pins s σ H x v vl vu lo hi sl Q I rx hs pl pu ⟨a, xs, e1, h1, fun p np => q p _ (.mk' np)⟩
end
end Rl
namespace Fx
open PySem L2 Rl
open PySem.W (Frag)
/-- an error of the class at C with the one attribute f -/
def ErrAt (H : Hp) (a C : Addr) (f : Str) (y : V) : Prop := ∃ d, H a = some (exo a C (some d)) ∧ H d = some (exd d [(f, y)])
theorem ErrAt.same {H H' : Hp} (s : Same H H') {a C : Addr} {f : Str} {y : V} (h : ErrAt H a C f y) : ErrAt H' a C f y :=
  let ⟨d, h1, h2⟩ := h
  ⟨d, s _ _ h1, s _ _ h2⟩
theorem errAt_new {H : Hp} {a d C : Addr} {f : Str} {y : V} (na : H a = none) (nd : H d = none) (ne : d ≠ a) : ErrAt (upd (upd H d (exd d [(f, y)])) a (exo a C (some d))) a C f y ∧ Same H (upd (upd H d (exd d [(f, y)])) a (exo a C (some d))) :=
  ⟨⟨d, upd_same, by rw [upd_ne ne, upd_same]⟩, fun b u e => by rw [upd_ne (ne_of_none e na), upd_ne (ne_of_none e nd)]; exact e⟩
def tErrR (C : Addr) (f : Str) (te : TE) : TE := fun σ H Q => te σ H fun y H1 => ∀ a H2, ErrAt H2 a C f y → Same H1 H2 → Q (.ref a) H2
section
variable {X : Cx} {B newId initId : String} {bmB : List Value} {C W fI : Addr} {f : Str} {k : Nat} {x : Str} {p pos kpos : Pos} {e : Expr} {te : TE}
theorem pe_errR (Z : Root B newId initId bmB) (T : Err1 X.prog X.K X.mg newId initId bmB C W fI f) (hr : Room (k + 1) X.A) (gC : X.mg x = some (.ref C)) (hg : Gl X x) (he : PE X e te) (hs : starEach [e] X.env = (false, eval e X.env) :: starEach [] X.env := by rfl)
    (hdb : (x == ("__debug__" : Str)) = false := by decide) : PE X (.Call (.Name x p) [e] [] pos) (tErrR C f te) := by
  refine ⟨fun pins s σ H Q I h => ?_⟩
  refine wpAny_Call_Name_kw (ld_glob I hg gC ?_ hdb)
  refine PySem.W.callWith_K (h₀ := X.base) I.ok.mod.kin T.t.kC ?_ hs (by rfl)
  rw [hs]
  show wpAny _ _ (spliced ((false, eval e X.env) :: backTo pos (starEach [] X.env))) _ _ s
  refine Calls.spliced_cons (thn (he.run pins s σ H _ I h) fun u s1 ⟨y, H1, I1, r1, q1⟩ => ?_)
  exact Calls.spliced_nil ⟨I1.kIn, run_err Z T hr I1 r1 (.inl ⟨rfl, rfl⟩) fun a d na nd ne => q1 a _ (errAt_new na nd ne).1 (errAt_new na nd ne).2⟩
theorem pe_errKR (Z : Root B newId initId bmB) (T : Err1 X.prog X.K X.mg newId initId bmB C W fI f) (hr : Room (k + 1) X.A) (gC : X.mg x = some (.ref C)) (hg : Gl X x) (he : PE X e te)
    (hdb : (x == ("__debug__" : Str)) = false := by decide) : PE X (.Call (.Name x p) [] [⟨some f, e, kpos⟩] pos) (tErrR C f te) := by
  refine ⟨fun pins s σ H Q I h => ?_⟩
  refine wpAny_Call_Name_kw (ld_glob I hg gC ?_ hdb)
  refine PySem.W.callWith_KW0 (h₀ := X.base) I.ok.mod.kin T.t.kC (by rfl) ?_ (by rfl)
  have hk : PK X [⟨some f, e, kpos⟩] (tCons te tNil) := pk_cons he pk_nil
  refine thn (hk.run pos pins s σ H (fun vs H1 => match vs with | [y] => ∀ a H2, ErrAt H2 a C f y → Same H1 H2 → Q (.ref a) H2 | _ => False) I h) fun us s1 ⟨vs, H1, I1, r1, q1⟩ => ⟨I1.kIn, ?_⟩
  cases r1 with
  | nil => exact q1.elim
  | cons ry rn =>
    cases rn with
    | nil => exact run_err Z T hr I1 ry (.inr ⟨rfl, rfl⟩) fun a d na nd ne => q1 a _ (errAt_new na nd ne).1 (errAt_new na nd ne).2
    | cons r2 rn => exact q1.elim
end
end Fx
set_option Elab.async false
set_option linter.all false
set_option maxRecDepth 100000
set_option maxHeartbeats 4000000
namespace Rl
open PySem PySem.Spec PyProof.Rows L2 Gd
/-! comprehensions whose readings say what each item is -/
section
variable {J : It} {n : Nat} {G : Hp → Prop} {Y : Nat → Hp → V → Hp → Prop}
/-- [e for x in it]: each item y keeps E, which says of the heap without the list that grows -/
theorem lcR (w : Walk J n G Y) {g : TG} {te : TE} {vs : List Nat} {σ : L2.St} {H1 : Hp} {Q : Addr → Hp → Prop} (n1 : n ≤ 1000) (hG : ∀ H, Same H1 H → G H) (E : Nat → V → Hp → Prop) (hE : ∀ i y H H', Same H H' → E i y H → E i y H')
    (turn : ∀ (D : Addr) (acc : List V) (i : Nat) (x : V) (H H' : Hp) (K : V → Hp → Prop), i < n → Same H1 H → H1 D = none → H D = some (.lst acc) → Y i H x H' → (∀ y H4, Same H H4 → E i y (delH H4 D) → K y H4) → g x (wipe σ vs) H' fun σ2 H2 => wipe σ2 vs = wipe σ vs ∧ te σ2 H2 K)
    (done : ∀ (D : Addr) (H' : Hp) (ys : List V), New H1 D (.lst ys) H' → ys.length = n → (∀ i y, ys[i]? = some y → E i y (delH H' D)) → Q D H') :
    ∀ D, H1 D = none → ∃ W : Nat → Nat → Hp → Prop, (∃ m, W 0 m (upd H1 D (.lst []))) ∧ ∀ i m H, W i m H →
      (J.stop i H ∧ Q D H) ∨ (J.go i H ∧ ∃ Nx : Hp → Prop, (∀ H', Nx H' → ∃ m', m' < m ∧ W (i + 1) m' H') ∧ ∀ x H', J.yld i H x H' → g x (wipe σ vs) H' fun σ2 H2 => wipe σ2 vs = wipe σ vs ∧ tYes σ2 H2 fun b H3 =>
        if b = true then te σ2 H3 fun y H4 => ∃ acc, H4 D = some (.lst acc) ∧ acc.length < sizeLine ∧ Nx (upd H4 D (.lst (acc ++ [y]))) else Nx H3) := by
  intro D hD
  refine lc_it w (Qd := fun H => Q D H) (fun i H => Same H1 H ∧ ∃ acc, H D = some (.lst acc) ∧ acc.length = i ∧ ∀ j y, acc[j]? = some y → E j y (delH H D)) ⟨same_new hD, [], upd_same, rfl, fun j y e => by simp at e⟩ (fun i H _ ⟨s, _⟩ => hG H s) ?_ ?_
  · rintro i x H H' hi ⟨s, acc, ha, hl, he⟩ y
    refine turn D acc i x H H' _ hi s hD ha y fun v H4 s4 e4 => ?_
    have hD4 := s4 _ _ ha
    refine ⟨acc, hD4, small1000 (by omega), fun b u e => ?_, acc ++ [v], upd_same, by rw [List.length_append, hl]; rfl, fun j z ej => ?_⟩
    · rw [upd_ne (ne_of_none e hD)]
      exact s4 _ _ (s b u e)
    · have up : ∀ {Ha : Hp}, Same Ha H4 → Same (delH Ha D) (delH (upd H4 D (.lst (acc ++ [v]))) D) := fun {Ha} sa b u e => by
        by_cases q : b = D
        · rw [q, delH_same] at e
          cases e
        · rw [delH_ne q] at e
          rw [delH_ne q, upd_ne q]
          exact sa b u e
      by_cases q : j < acc.length
      · rw [List.getElem?_append_left q] at ej
        exact hE _ _ _ _ (up s4) (he j z ej)
      · rw [List.getElem?_append_right (by omega)] at ej
        have e0 : j - acc.length = 0 := by
          cases r : j - acc.length with
          | zero => rfl
          | succ m =>
            rw [r] at ej
            simp at ej
        rw [e0] at ej
        have ez : v = z := by simpa using ej
        subst ez
        have ej2 : j = i := by omega
        subst ej2
        exact hE _ _ _ _ (up (Same.refl _)) e4
  · rintro H ⟨s, acc, ha, hl, he⟩
    exact done D H acc ⟨hD, ha, s⟩ hl he
end
/-- a list told item by item -/
theorem list_of {n : Nat} {ys : List V} {f : Nat → V} (hl : ys.length = n) (h : ∀ i y, ys[i]? = some y → y = f i) : ys = (List.range n).map f := by
  apply List.ext_getElem
  · rw [hl, List.length_map, List.length_range]
  · intro i h1 h2
    rw [List.getElem_map, List.getElem_range]
    exact h i _ (by simp [h1])
/-! ### types of data -/
def tyN : PyData → String
  | .none => "NoneType"
  | .bool _ => "bool"
  | .int _ => "int"
  | .str _ => "str"
  | .list _ => "list"
  | .tuple _ => "tuple"
  | .dict _ => "dict"
theorem sql_ty {K : PySem.W.Frag} {H : Hp} {a : Addr} {xs : List V} (h : SqL K H a xs) : TyX K H (.ref a) (.type "list") := by
  rcases h with (h | ⟨o, h⟩) | ⟨o, its, n, h, c, _⟩
  · exact .base (.lst h)
  · exact .base (.frz h)
  · exact .kList h c
theorem sqt_ty {K : PySem.W.Frag} {H : Hp} {a : Addr} {xs : List V} (h : SqT K H a xs) : TyX K H (.ref a) (.type "tuple") := by
  rcases h with (h | ⟨o, h⟩) | ⟨o, its, n, h, c, _⟩
  · exact .base (.tup h)
  · exact .fTuple h
  · exact .kTuple h c
theorem rp_ty {K : PySem.W.Frag} {H : Hp} {v : V} {d : PyData} (h : Rp K H v d) : TyX K H v (.type (tyN d)) := by
  rcases h with h | ⟨a, kvs, ds, rfl, ha, _, rfl⟩
  · cases h with
    | non => exact .base .non
    | bl b => exact .base (.bl b)
    | int i => exact .base (.int i)
    | str z => exact .base (.str z)
    | lst h _ => exact sql_ty h
    | tup h _ => exact sqt_ty h
  · exact .base (.dK ha)
/-- isinstance(x, T), T a built-in type, x data -/
def rIsD (K : PySem.W.Frag) (T : String) : List V → Hp → VK → Prop := fun xs H Q => ∃ (v : V) (d : PyData) (b : Bool), xs = [v, .ty T] ∧ Rp K H v d ∧ kitB (tyN d) T = some b ∧ Q (.bl b) H
theorem call_isD {X : Cx} {T : String} : CallR X (.builtin "isinstance") (rIsD X.K T) := by
  intro pins s σ H xs us Q I r h
  obtain ⟨v, d, b, e, hd, hb, q⟩ := h
  exact call_isi pins s σ H xs us Q I r ⟨v, .ty T, .type (tyN d), .type T, b, e, .ty T, rp_ty hd, kit_ty hb, q⟩
theorem kit_int (d : PyData) : kitB (tyN d) "int" = some (match d with | .int _ => true | .bool _ => true | _ => false) := by
  cases d <;> (first | decide +kernel | (simp only [tyN]; decide +kernel))
theorem kit_bool (d : PyData) : kitB (tyN d) "bool" = some (match d with | .bool _ => true | _ => false) := by
  cases d <;> (first | decide +kernel | (simp only [tyN]; decide +kernel))
theorem kit_str (d : PyData) : kitB (tyN d) "str" = some (match d with | .str _ => true | _ => false) := by
  cases d <;> (first | decide +kernel | (simp only [tyN]; decide +kernel))
theorem kit_tuple (d : PyData) : kitB (tyN d) "tuple" = some (match d with | .tuple _ => true | _ => false) := by
  cases d <;> (first | decide +kernel | (simp only [tyN]; decide +kernel))
theorem dp_at {K : PySem.W.Frag} {H : Hp} : ∀ {vs : List V} {ds : List PyData}, DpAll K H vs ds → ∀ {i : Nat} {v : V}, vs[i]? = some v → ∃ d, ds[i]? = some d ∧ Dp K H v d
  | _, _, .nil, i, v, e => by simp at e
  | _, _, .cons a b, 0, v, e => by
    simp at e
    subst e
    exact ⟨_, rfl, a⟩
  | _, _, .cons a b, i + 1, v, e => dp_at b (i := i) (by simpa using e)
theorem dp_len {K : PySem.W.Frag} {H : Hp} : ∀ {vs : List V} {ds : List PyData}, DpAll K H vs ds → vs.length = ds.length
  | _, _, .nil => rfl
  | _, _, .cons a b => by
    rw [List.length_cons, List.length_cons, dp_len b]
theorem dp_of {K : PySem.W.Frag} {H : Hp} : ∀ {vs : List V} {ds : List PyData}, vs.length = ds.length → (∀ (i : Nat) (v : V), vs[i]? = some v → ∃ d, ds[i]? = some d ∧ Dp K H v d) → DpAll K H vs ds
  | [], [], _, _ => .nil
  | [], _ :: _, h, _ => by simp at h
  | _ :: _, [], h, _ => by simp at h
  | v :: vs, d :: ds, h, e => by
    obtain ⟨d', e1, e2⟩ := e 0 v rfl
    have e3 : d = d' := by simpa using e1
    subst e3
    exact .cons e2 (dp_of (by simpa using h) fun i v q => e (i + 1) v (by simpa using q))
end Rl
set_option Elab.async false
set_option linter.all false
set_option maxRecDepth 100000
set_option maxHeartbeats 8000000
namespace Pg
open PySem PySem.Spec PyProof.Rows L2 Gd Rl
def top (i : Nat) : Stmt := PySem.Challenge.pw_fallranks_k12_programs_compared.main.body.getD i (.Pass ⟨0, 0, 0, 0⟩)
abbrev FnP (K : PySem.W.Frag) (x : Str) (st : Stmt) (f : Addr) (fd : FuncData) : Prop := FunD K x x (defArgs st) (defBody st) (defScope st) [] [] f fd
abbrev sInt : Stmt := top 17
abbrev sName : Stmt := top 18
abbrev sInts : Stmt := top 19
abbrev sForm : Stmt := top 20
abbrev sForms : Stmt := top 21
/-! ### what data is, in plain Lean -/
def letS : Str := "abcdefghijklmnopqrstuvwxyz"
def figS : Str := "0123456789"
def intB : PyData → Bool
  | .int _ => true
  | _ => false
def nameS (z : Str) : Bool := match z.cps.toList with
  | [] => false
  | c :: r => decide ((c :: r).length ≤ 8) && (decide (c ∈ letS.cps.toList) && (c :: r).all fun c => decide (c ∈ (letS ++ figS).cps.toList))
def nameB : PyData → Bool
  | .str z => nameS z
  | _ => false
def numB : PyData → Bool
  | .int i => decide (-1000000 ≤ i) && decide (i ≤ 1000000)
  | _ => false
def intsB (n : Nat) : PyData → Bool
  | .tuple ds => decide (ds.length = n) && ds.all intB
  | _ => false
def formB (m : Nat) : PyData → Bool
  | .tuple ds => decide (ds.length = m + 1) && ds.all numB
  | _ => false
def formsB (m : Nat) : PyData → Bool
  | .tuple ds => ds.all (formB m)
  | _ => false
def lenD : PyData → Nat
  | .tuple ds => ds.length
  | _ => 0
def sayB (m : Nat) : PyData → Bool
  | .tuple [p, f] => nameB p && formB m f
  | _ => false
def brB (m : Nat) : PyData → Bool
  | .tuple [s, t, ts, cs] => nameB s && (nameB t && ((formsB m ts && decide (lenD ts ≤ 3)) && (formsB m cs && decide (lenD cs = m))))
  | _ => false
mutual
/-- no text and no row within is too long -/
def okD : PyData → Bool
  | .str z => decide (z.length ≤ 1000)
  | .list ds => decide (ds.length ≤ 1000) && okAll ds
  | .tuple ds => decide (ds.length ≤ 1000) && okAll ds
  | _ => true
def okAll : List PyData → Bool
  | [] => true
  | d :: ds => okD d && okAll ds
end
theorem ok_at : ∀ {ds : List PyData}, okAll ds = true → ∀ {i : Nat} {d : PyData}, ds[i]? = some d → okD d = true
  | [], _, i, d, e => by simp at e
  | a :: ds, h, 0, d, e => by
    simp at e
    subst e
    rw [okAll, Bool.and_eq_true] at h
    exact h.1
  | a :: ds, h, i + 1, d, e => by
    rw [okAll, Bool.and_eq_true] at h
    exact ok_at h.2 (i := i) (by simpa using e)
theorem all_getD (l : List Nat) (p : Nat → Bool) : ((List.range l.length).map fun i => p (l.getD i 0)).all id = l.all p := by
  have e : ((List.range l.length).map fun i => p (l.getD i 0)) = l.map p := by
    apply List.ext_getElem
    · simp
    · intro i h1 h2
      simp only [List.length_map, List.length_range] at h1
      simp [List.getD_eq_getElem?_getD, List.getElem?_eq_getElem h1]
  rw [e, List.all_map]
  rfl
/-- what the walk asks of the module -/
structure Mo (mg : Str → Option Value) : Prop where
  isi : mg "isinstance" = none
  int : mg "int" = none
  bool : mg "bool" = none
  str : mg "str" = none
  tuple : mg "tuple" = none
  len : mg "len" = none
  all : mg "all" = none
  enum : mg "enumerate" = none
  lname : ∃ t, mg "LONGEST_NAME" = some (.int 8 t)
  lets : ∃ t, mg "LETTERS" = some (.str letS t)
  figs : ∃ t, mg "FIGURES" = some (.str figS t)
  mnum : ∃ t, mg "MOST_NUMBER" = some (.int 1000000 t)
  mvar : ∃ t, mg "MOST_VARIABLES" = some (.int 3 t)
  mpla : ∃ t, mg "MOST_PLACES" = some (.int 3 t)
  mbra : ∃ t, mg "MOST_BRANCHES" = some (.int 5 t)
  mtes : ∃ t, mg "MOST_TESTS" = some (.int 3 t)
  msay : ∃ t, mg "MOST_SAYINGS" = some (.int 3 t)
/-- a judge of data: one argument -/
def spJ (K : PySem.W.Frag) (B : PyData → Bool) : Sp := fun vs H Q _ => ∃ (v : V) (d : PyData), vs = [v] ∧ Rp K H v d ∧ okD d = true ∧ ∀ H', Same H H' → Q (.bl (B d)) H'
/-- two arguments, the second how many variables -/
def spJ2 (K : PySem.W.Frag) (B : Nat → PyData → Bool) : Sp := fun vs H Q _ => ∃ (v : V) (d : PyData) (m : Nat), vs = [v, .int m] ∧ Rp K H v d ∧ okD d = true ∧ ∀ H', Same H H' → Q (.bl (B m d)) H'
section
variable {P : Program} {w : World} {K : PySem.W.Frag} {mg : Str → Option Value} {base : Heap} {f : Addr} {fd : FuncData}
theorem scInt : FnScope ["value"] ["value"] (defScope sInt) := ⟨rfl, rfl, rfl, by decide +kernel, rfl, by decide +kernel, by decide +kernel⟩
theorem ok_int (F : FnP K "is_integer" sInt f fd) (T : Mo mg) : FnOk P w K mg base CX0 1 f fd ["value"] (spJ K intB) := by
  refine F.ok scInt (fun vs H Q E h => ?_) (fun cdv A outer s H vs Q E hr h => ?_)
  · obtain ⟨v, d, rfl, _⟩ := h
    rfl
  · obtain ⟨v, d, rfl, hd, ho, k⟩ := h
    refine ⟨_, PSs.nox <| pss_one (ps_ret (pe_and (pe_callB (call_isD (T := "int")) (by rfl) T.isi boot_isinstance (pa_cons (pv 0) (pa_cons (pe_bltn (v := .ty "int") (by rfl) T.int (by decide +kernel) rfl) pa_nil)))
      (pe_one (pe_not (pe_callB (call_isD (T := "bool")) (by rfl) T.isi boot_isinstance (pa_cons (pv 0) (pa_cons (pe_bltn (v := .ty "bool") (by rfl) T.bool (by decide +kernel) rfl) pa_nil))))))), ?_⟩
    refine ⟨_, rfl, v, d, _, rfl, hd, kit_int d, _, rfl, ?_⟩
    have k0 := k H (Same.refl H)
    cases d with
    | int i => exact ⟨_, rfl, v, _, _, rfl, hd, kit_bool _, _, rfl, k0⟩
    | bool b => exact ⟨_, rfl, v, _, _, rfl, hd, kit_bool _, _, rfl, k0⟩
    | none => exact k0
    | str z => exact k0
    | list ds => exact k0
    | tuple ds => exact k0
    | dict ds => exact k0
theorem scName : FnScope ["value", "sign"] ["value"] (defScope sName) := ⟨rfl, rfl, rfl, by decide +kernel, rfl, by decide +kernel, by decide +kernel⟩
theorem ok_name (F : FnP K "is_name" sName f fd) (T : Mo mg) : FnOk P w K mg base CX0 1 f fd ["value"] (spJ K nameB) := by
  obtain ⟨t1, c1⟩ := T.lname
  obtain ⟨t2, c2⟩ := T.lets
  obtain ⟨t3, c3⟩ := T.figs
  refine F.ok scName (fun vs H Q E h => ?_) (fun cdv A outer s H vs Q E hr h => ?_)
  · obtain ⟨v, d, rfl, _⟩ := h
    rfl
  · obtain ⟨v, d, rfl, hd, ho, k⟩ := h
    refine ⟨_, PSs.nox <| pss_cons (ps_if (PW.pt (pw_or (pt_not (pt_val (pe_callB (call_isD (T := "str")) (by rfl) T.isi boot_isinstance (pa_cons (pv 0) (pa_cons (pe_bltn (v := .ty "str") (by rfl) T.str (by decide +kernel) rfl) pa_nil)))))
        (pw_or1 (pt_not (pt_chain op_le op_le pe_int (pe_callB call_len_str (by rfl) T.len PySem.boot_len (pa_cons (pv 0) pa_nil)) (pe_glob (v := .int 8) (by rfl) c1 ⟨_, rfl⟩)))))) (pss_one (ps_ret pe_bl)) pss_nil)
      <| pss_one (ps_ret (pe_and (pe_cmpR op_in_sign (pe_item_str (pv 0) pe_int (fun _ _ => rfl)) (pe_glob (v := .str letS) (by rfl) c2 ⟨_, rfl⟩) (by rfl))
        (pe_one (pe_callB (cr_all rfl) (by rfl) T.all (by decide +kernel) (pa_cons (pe_lc (own := [("sign", 1)]) (g := gName 1) (tt := tYes) rfl scName.nd (pi_str (pv 0)) (blkOk_by (N := ["value", "sign"]) (sc := defScope sName) (by decide +kernel)) (fun _ _ _ _ _ => pg_name (i := 1) scName.nd rfl (Or.inl rfl)) (fun _ _ _ _ _ => pts_nil)
          (fun _ _ _ _ _ => pe_cmpR op_in_sign (pv 1) (pe_op op_add_str (pe_glob (v := .str letS) (by rfl) c2 ⟨_, rfl⟩) (pe_glob (v := .str figS) (by rfl) c3 ⟨_, rfl⟩)) (by rfl))) pa_nil))))), ?_⟩
    refine ⟨_, rfl, v, d, _, rfl, hd, kit_str d, _, rfl, ?_⟩
    have k0 := k H (Same.refl H)
    cases d with
    | str z =>
      have hv : v = V.str z := by
        rcases hd with hd | ⟨a, kvs, ds, _, _, _, e⟩
        · cases hd
          rfl
        · cases e
      subst hv
      have hz : z.length ≤ 1000 := of_decide_eq_true ho
      have lz : (z.length : Int) = (z.cps.toList.length : Nat) := by
        rw [Array.length_toList]
        rfl
      refine iteF ?_
      refine ⟨_, rfl, z, rfl, sz1000 hz, _, _, rfl, rfl, _, rfl, ?_⟩
      refine ite2 (fun h1 => ?_) (fun h1 => ?_)
      · refine ⟨_, _, rfl, rfl, _, rfl, ?_⟩
        have h1' : 1 ≤ z.length := by
          have := of_decide_eq_true h1
          omega
        obtain ⟨c, r, hl⟩ : ∃ c r, z.cps.toList = c :: r := by
          cases hl : z.cps.toList with
          | nil =>
            rw [hl] at lz
            simp at lz
            omega
          | cons c r => exact ⟨c, r, rfl⟩
        have hlen : z.length = (c :: r).length := by
          rw [hl] at lz
          omega
        have hB : nameB (.str z) = (decide ((c :: r).length ≤ 8) && (decide (c ∈ letS.cps.toList) && (c :: r).all fun c => decide (c ∈ (letS ++ figS).cps.toList))) := by
          show nameS z = _
          unfold nameS
          rw [hl]
        by_cases h2 : z.length ≤ 8
        · rw [show decide ((z.length : Int) ≤ 8) = true from decide_eq_true (by omega)]
          refine iteF ?_
          have hc0 : z.cps[(0 : Int).toNat]? = some c := by
            rw [← Array.getElem?_toList, hl]
            rfl
          refine ⟨_, rfl, z, 0, c, rfl, rfl, by decide, by decide, by omega, hc0, c, letS, rfl, rfl, _, rfl, ?_⟩
          rw [show decide ((c :: r).length ≤ 8) = true from decide_eq_true (by omega), Bool.true_and] at hB
          by_cases h3 : c ∈ letS.cps.toList
          · rw [decide_eq_true h3] at hB ⊢
            rw [Bool.true_and] at hB
            refine ⟨_, rfl, z, rfl, lcR walk_str (n1 := hz) (fun _ _ => trivial) (fun i y _ => y = .bl (decide ((c :: r).getD i 0 ∈ (letS ++ figS).cps.toList))) (fun _ _ _ _ _ e => e) ?_ ?_⟩
            · rintro D acc i x Ha Hb K2 hi s nD hD ⟨rfl, c', ec, rfl⟩ kk
              refine ⟨rfl, _, rfl, _, _, rfl, rfl, by decide +kernel, c', _, rfl, rfl, kk _ _ (Same.refl _) ?_⟩
              have e2 : (c :: r)[i]? = some c' := by
                rw [← hl, Array.getElem?_toList]
                exact ec
              rw [List.getD_eq_getElem?_getD, e2]
              rfl
            · rintro D Hb ys nw hlen2 he
              have ey : ys = ((List.range z.cps.size).map fun i => decide ((c :: r).getD i 0 ∈ (letS ++ figS).cps.toList)).map V.bl := by
                rw [List.map_map]
                exact list_of hlen2 he
              refine ⟨D, _, rfl, by rw [← ey]; exact SqL.of nw.2.1, ?_⟩
              have e3 : (((List.range z.cps.size).map fun i => decide ((c :: r).getD i 0 ∈ (letS ++ figS).cps.toList)).all id) = nameB (.str z) := by
                rw [hB, show z.cps.size = (c :: r).length from hlen]
                exact all_getD (c :: r) fun c => decide (c ∈ (letS ++ figS).cps.toList)
              rw [e3]
              exact k Hb nw.2.2
          · rw [decide_eq_false h3] at hB ⊢
            rw [Bool.false_and] at hB
            rw [hB] at k0
            exact k0
        · rw [show decide ((z.length : Int) ≤ 8) = false from decide_eq_false (by omega)]
          refine iteT ?_
          rw [show decide ((c :: r).length ≤ 8) = false from decide_eq_false (by omega), Bool.false_and] at hB
          rw [hB] at k0
          exact k0
      · refine ⟨_, rfl, ?_⟩
        refine iteT ?_
        have h1' : z.length = 0 := by
          have : ¬ (1 : Int) ≤ z.length := fun q => h1 (decide_eq_true q)
          omega
        have hB : nameB (.str z) = false := by
          show nameS z = _
          unfold nameS
          cases hl : z.cps.toList with
          | nil => rfl
          | cons c r =>
            rw [hl] at lz
            simp at lz
            omega
        rw [hB] at k0
        exact k0
    | int i => exact k0
    | bool b => exact k0
    | none => exact k0
    | list ds => exact k0
    | tuple ds => exact k0
    | dict ds => exact k0
end
end Pg
set_option Elab.async false
set_option linter.all false
set_option maxRecDepth 100000
set_option maxHeartbeats 8000000
namespace Ow
open PySem PySem.Spec PyProof.Rows L2 Gd Rl
/-! len, str, repr of an own object; a class called by a local name -/
/-- the class has the method as a plain def at f -/
structure Dun (K : PySem.W.Frag) (C : Addr) (m : Str) (f : Addr) : Prop where
  at_ : PySem.W.findIn K (.ref C) m = some (some (.ref f))
  fn : PySem.W.isFn K (.ref f) = true
section
variable {X : Cx} {k : Nat} {f C : Addr} {fd : FuncData} {sp : Sp} {self : Str}
/-- the def at f called with one object, some ways down -/
theorem call_dn {pins : List (Addr × Obj)} {σ : L2.St} {H : Hp} {s : Shared} {Q : VK} {A : Around} {a : Addr} {Ex : Value → Shared → Prop} (F : FnOk X.prog X.w X.K X.mg X.base CX0 k f fd [self] sp) (hr : Room k A) (e0 : L2.Env0 X.prog X.w X.K X.mg X.base A X.stack s H) (hb : Binds X.K fd [self] []) (I : Inv X pins σ H s) (h : sp [.ref a] H Q E0) :
    wpAny (model X.prog X.w) A (call (.ref f) [.ref a]) (EP X pins σ Q) Ex s := by
  refine wpAny_call (codeAny_mono (F.run A X.stack s H ⟨[.ref a], []⟩ [.ref a] [.ref a] Q E0 hr e0 (hb s [.ref a] I.kIn rfl) (.cons rfl .nil) h) fun r s' hq => ?_)
  cases r with
  | error er => exact hq.elim
  | ok fl =>
    cases fl with
    | ret u => exact I.after hq
    | next => exact hq.elim
    | brk => exact hq.elim
    | cont => exact hq.elim
def rOwn (C : Addr) (sp : Sp) (P : V → Prop) : List V → Hp → VK → Prop := fun xs H Q => ∃ (a dx : Addr) (fs : List (Str × V)), xs = [.ref a] ∧ H a = some (.ins C dx fs) ∧ sp [.ref a] H (fun v H' => P v ∧ Q v H') E0
theorem call_strO (F : FnOk X.prog X.w X.K X.mg X.base CX0 k f fd [self] sp) (hr : Room (k + 2) X.A) (hb : Binds X.K fd [self] []) (d : Dun X.K C "__str__" f) : CallR X (.type "str") (rOwn C sp fun v => ∃ z, v = .str z) := by
  intro pins s σ H xs us Q I r h
  obtain ⟨a, dx, fs, rfl, ea, hq⟩ := h
  obtain ⟨u, rfl, ru⟩ := vals1 r
  cases ru
  obtain ⟨mA, O, _, _, _, _⟩ := ins_get I.hok ea
  obtain ⟨od, J, _⟩ := O.look
  refine PySem.W.kso_call (hr.in1.in1).units0 I.kIn J d.at_ d.fn (wpAny_mono (call_dn F hr.in1.in1 I.env0.in1.in1 hb I hq) (fun v s' hv => ?_) fun _ _ y => y)
  obtain ⟨v', H', I', rv, ⟨z, rfl⟩, q⟩ := hv
  obtain ⟨t, rfl⟩ := rv
  exact ⟨.str z, H', I', ⟨t, rfl⟩, q⟩
theorem call_lenO (F : FnOk X.prog X.w X.K X.mg X.base CX0 k f fd [self] sp) (hr : Room (k + 1) X.A) (hb : Binds X.K fd [self] []) (d : Dun X.K C "__len__" f) : CallR X (.builtin "len") (rOwn C sp fun v => ∃ n : Int, v = .int n ∧ 0 ≤ n ∧ n < 2 ^ 63) := by
  intro pins s σ H xs us Q I r h
  obtain ⟨a, dx, fs, rfl, ea, hq⟩ := h
  obtain ⟨u, rfl, ru⟩ := vals1 r
  cases ru
  obtain ⟨mA, O, _, _, _, _⟩ := ins_get I.hok ea
  obtain ⟨od, J, _⟩ := O.look
  refine Calls.call_function_entry PySem.kind_len PySem.plain_len PySem.entry_len (PySem.args_len1 _) ?_
  unfold Builtin.«len»
  refine wpAny_bind (m := oneArg "len" _) (wpAny_pure ?_)
  refine wpAny_bind (m := callSpecial? (.ref a) (Str.ofString "__len__")) (PySem.W.special_fn I.kIn J d.at_ (beq_iff_eq.mp d.fn) (wpAny_mono (call_dn F hr.in1 I.env0.in1 hb I hq) (fun v s' hv => ?_) fun _ _ y => y))
  obtain ⟨v', H', I', rv, ⟨n, rfl, n0, n1⟩, q⟩ := hv
  obtain ⟨t, rfl⟩ := rv
  refine wpAny_bind (wpAny_holding (wpAny_pure ?_))
  refine wpAny_bind (wpAny_letGo ?_)
  show wpAny _ _ (if n < 0 then _ else _) _ _ _
  rw [if_neg (by omega)]
  show wpAny _ _ (if n ≥ 2 ^ 63 then _ else _) _ _ _
  rw [if_neg (by omega)]
  exact wpAny_bind (wpAny_mkInt (wpAny_pure ⟨_, rfl, .int n, H', I'.tok _, ⟨_, rfl⟩, q⟩))
theorem call_reprO (F : FnOk X.prog X.w X.K X.mg X.base CX0 k f fd [self] sp) (hr : Room (k + 1) X.A) (hb : Binds X.K fd [self] []) (d : Dun X.K C "__repr__" f) : CallR X (.builtin "repr") (rOwn C sp fun v => ∃ z, v = .str z) := by
  intro pins s σ H xs us Q I r h
  obtain ⟨a, dx, fs, rfl, ea, hq⟩ := h
  obtain ⟨u, rfl, ru⟩ := vals1 r
  cases ru
  obtain ⟨mA, O, _, _, _, _⟩ := ins_get I.hok ea
  obtain ⟨od, J, _⟩ := O.look
  refine Calls.call_function_entry PySem.F.kind_repr PySem.F.plain_repr PySem.F.entry_repr (PySem.F.args_repr1 _) ?_
  unfold Builtin.«repr»
  refine wpAny_bind (m := oneArg "repr" _) (wpAny_pure ?_)
  refine wpAny_bind (wpAny_cRoomFor hr.in1.units0 ?_)
  refine wpAny_bind (wpAny_bind (J.type.here ((PySem.W.looks_findIn I.kIn d.at_).here ?_)))
  show wpAny _ _ (if (some (Value.ref f)).isNone = true then _ else _) _ _ _
  rw [if_neg (by simp)]
  refine wpAny_bind (m := callSpecialIfBound? (.ref a) (Str.ofString "__repr__") _) (PySem.W.ifBound_K I.kIn J d.at_ d.fn (wpAny_mono (call_dn F hr.in1 I.env0.in1 hb I hq) (fun v s' hv => ?_) fun _ _ y => y))
  obtain ⟨v', H', I', rv, ⟨z, rfl⟩, q⟩ := hv
  obtain ⟨t, rfl⟩ := rv
  refine wpAny_bind (wpAny_isInstance (typeIs_str _ _ _) isSubtype_str_str ?_)
  have fin : EP X pins σ Q (.str z t) s' := ⟨.str z, H', I', ⟨t, rfl⟩, q⟩
  first
    | exact wpAny_pure ⟨_, rfl, fin⟩
    | (rw [if_pos rfl]; exact wpAny_pure ⟨_, rfl, fin⟩)
    | (simp only [if_true]; exact wpAny_pure ⟨_, rfl, fin⟩)
/-- x(e, ..), the i-th slot holds the class at C -/
def tMakeL (i : Nat) (C : Addr) (sp : Sp) (dvs : List V) (E : XK) (t : TA) : TE := fun σ H Q => σ[i]? = some (some (.ref C)) ∧ tMake C sp dvs E t σ H Q
theorem pe_makeL {CX : CXT} {i : Nat} {ps : List Str} {dvs : List V} {ds : List Value} {E : XK} {x : Str} {p pos : Pos} {e : Expr} {es : List Expr} {t : TA} (M : Mk X.K C f) (F : FnOk X.prog X.w X.K X.mg X.base CX k f fd ps sp) (hr : Room (k + 1) X.A) (hN : X.N[i]? = some x) (hv : Vis X.env.scope x) (hb : Binds X.K fd ps ds) (hd : Vals dvs ds) (hx : Passes CX X E) (ha : PA X (e :: es) t)
    (hdb : (x == ("__debug__" : Str)) = false := by decide) (hcd : (x == ("__classdict__" : Str)) = false := by decide)
    (he : starEach (e :: es) X.env = (false, eval e X.env) :: starEach es X.env := by rfl) (hpl : (backTo pos (starEach es X.env)).any (·.1) = false := by rfl) : PE X (.Call (.Name x p) (e :: es) [] pos) (tMakeL i C sp dvs E t) := by
  refine ⟨fun pins s σ H Q I h => ?_⟩
  obtain ⟨hs, ht⟩ := h
  refine wpAny_Call_Name_kw (thn ((pe_var (pos := p) hN hv hdb hcd).run pins s σ H (fun v H1 => v = .ref C ∧ H1 = H) I ⟨.ref C, hs, rfl, rfl⟩) fun u s1 ⟨v, H1, I1, r1, q1⟩ => ?_)
  obtain ⟨rfl, rfl⟩ := q1
  cases r1
  refine PySem.W.callWith_K (h₀ := X.base) I.ok.mod.kin M.kp (thn (ha.run pos pins s1 σ _ _ I1 ht) fun us s2 ⟨vs, H2, I2, r, q⟩ => ⟨I2.kIn, ?_⟩) he hpl
  exact run_make M F hr hb hd hx I2 r q
end
end Ow
set_option Elab.async false
set_option linter.all false
set_option maxRecDepth 100000
set_option maxHeartbeats 8000000
namespace Ow
open PySem PySem.Spec PyProof.Rows L2 Gd Rl
/-! bool of an own object by its own len -/
section
variable {X : Cx} {k : Nat} {f C : Addr} {fd : FuncData} {sp : Sp} {self : Str}
/-- no class of it has __bool__ -/
def NoBool (K : PySem.W.Frag) (C : Addr) : Prop := PySem.W.findIn K (.ref C) "__bool__" = some none
theorem truth_own {pins : List (Addr × Obj)} {σ : L2.St} {H : Hp} {s : Shared} {Q : VK} {A : Around} {a dx : Addr} {fs : List (Str × V)} {Ex : Value → Shared → Prop} (F : FnOk X.prog X.w X.K X.mg X.base CX0 k f fd [self] sp) (hr : Room (k + 1) A) (e0 : L2.Env0 X.prog X.w X.K X.mg X.base A X.stack s H) (hb : Binds X.K fd [self] []) (d : Dun X.K C "__len__" f) (nb : NoBool X.K C)
    (I : Inv X pins σ H s) (ea : H a = some (.ins C dx fs)) (h : sp [.ref a] H (fun v H' => (∃ n : Int, v = .int n ∧ 0 < n ∧ n < 2 ^ 63) ∧ Q (.bl true) H') E0) :
    wpAny (model X.prog X.w) A (truthy (.ref a)) (fun b s' => b = true ∧ EP X pins σ Q (.bool true) s') Ex s := by
  obtain ⟨mA, O, _, _, _, _⟩ := ins_get I.hok ea
  obtain ⟨od, J, _⟩ := O.look
  unfold truthy
  refine wpAny_bind (m := callSpecial? (.ref a) (Str.ofString "__bool__")) (wpAny_bind (wpAny_bind (J.type.here ((PySem.W.looks_findIn I.kIn nb).here (wpAny_pure ?_)))))
  refine wpAny_bind (wpAny_bind (J.type.here ((PySem.W.looks_findIn I.kIn d.at_).here ?_)))
  show wpAny _ _ (if (some (Value.ref f)).isNone = true then _ else _) _ _ _
  rw [if_neg (by simp)]
  refine wpAny_bind (wpAny_mono (Q := fun r s' => ∃ n t, r = .int n t ∧ 0 < n ∧ EP X pins σ Q (.bool true) s') (wpAny_runValue (codeAny_builtin PySem.entry_len ?_)) (fun r s' h' => ?_) fun _ _ e => e)
  · rw [Around.under_plainId PySem.plain_len _]
    unfold Builtin.«len»
    refine wpAny_bind (m := oneArg "len" _) (wpAny_pure ?_)
    refine wpAny_bind (m := callSpecial? (.ref a) (Str.ofString "__len__")) (PySem.W.special_fn I.kIn J d.at_ (beq_iff_eq.mp d.fn) (wpAny_mono (call_dn F hr.in1 e0.in1 hb I h) (fun v s' hv => ?_) fun _ _ y => y))
    obtain ⟨v', H', I', rv, ⟨n, rfl, n0, n1⟩, q⟩ := hv
    obtain ⟨t, rfl⟩ := rv
    refine wpAny_bind (wpAny_holding (wpAny_pure ?_))
    refine wpAny_bind (wpAny_letGo ?_)
    show wpAny _ _ (if n < 0 then _ else _) _ _ _
    rw [if_neg (by omega)]
    show wpAny _ _ (if n ≥ 2 ^ 63 then _ else _) _ _ _
    rw [if_neg (by omega)]
    exact wpAny_bind (wpAny_mkInt (wpAny_pure ⟨_, _, rfl, n0, .bl true, H', I'.tok _, rfl, q⟩))
  · obtain ⟨n, t, rfl, n0, e⟩ := h'
    refine wpAny_pure ⟨?_, e⟩
    simp
    omega
def rOwnB (C : Addr) (sp : Sp) : List V → Hp → VK → Prop := fun xs H Q => ∃ (a dx : Addr) (fs : List (Str × V)), xs = [.ref a] ∧ H a = some (.ins C dx fs) ∧ sp [.ref a] H (fun v H' => (∃ n : Int, v = .int n ∧ 0 < n ∧ n < 2 ^ 63) ∧ Q (.bl true) H') E0
theorem call_boolO (F : FnOk X.prog X.w X.K X.mg X.base CX0 k f fd [self] sp) (hr : Room (k + 3) X.A) (hb : Binds X.K fd [self] []) (d : Dun X.K C "__len__" f) (nb : NoBool X.K C) : CallR X (.type "bool") (rOwnB C sp) := by
  intro pins s σ H xs us Q I r h
  obtain ⟨a, dx, fs, rfl, ea, hq⟩ := h
  obtain ⟨u, rfl, ru⟩ := vals1 r
  cases ru
  refine callType_codes (T := "bool") (Bi := Builtin.«object.__init__») (Q₁ := fun r s₁ => r = .bool true ∧ EP X pins σ Q (.bool true) s₁) PySem.F.called_bool (PySem.F.typeCall_bool_1 _) PySem.F.entry_object_init ?_ ?_
  · refine codeAny_of_tree ?_
    show wpAny _ X.A.in1.in1 (do checkBuiltinCall "bool.__new__" ⟨[.type "bool", .ref a], []⟩; again (.builtin "bool.__new__" ⟨[.type "bool", .ref a], []⟩)) _ _ s
    refine wpAny_bind (wpAny_of_eq (PySem.F.newCall_bool_1 _) (wpAny_pure ⟨plainId_quiet (by decide +kernel) _, codeAny_builtin PySem.F.entry_bool_new ?_⟩))
    rw [Around.under_plainId (by decide +kernel) _]
    have f1 := PySem.F.conv_sub_bool
    have ht := fun (Ex : Value → Shared → Prop) => truth_own (Ex := Ex) F hr.in1.in1 I.env0.in1.in1 hb d nb I ea hq
    unfold Builtin.«bool.__new__»
    refine wpAny_bind (wpAny_of_eq (a := true) (by first | rfl | (unfold isType; rfl)) ?_)
    simp only [Bool.not_true, Bool.false_eq_true, if_false]
    refine wpAny_bind (wpAny_of_eq f1 ?_)
    simp only [Bool.not_true, Bool.false_eq_true, if_false]
    refine wpAny_bind (m := someArgs _ _ _ _) (wpAny_pure ?_)
    refine wpAny_bind (wpAny_mono (ht _) (fun b s1 hb1 => ?_) fun _ _ e => e)
    obtain ⟨rfl, e⟩ := hb1
    exact wpAny_pure ⟨rfl, e⟩
  · rintro obj s₁ ⟨rfl, hq1⟩
    refine ⟨PySem.typeIs_bool _ _, PySem.F.args_object_init_2 _ _, object_init_meets PySem.F.called_bool.init.lookup PySem.F.called_bool.made (by decide) X.prog X.w X.A.in1 _ s₁ ⟨PySem.typeIs_bool _ _, rfl, hq1⟩⟩
end
end Ow
set_option Elab.async false
set_option linter.all false
set_option maxRecDepth 100000
set_option maxHeartbeats 8000000
namespace Hx
open PySem PySem.Spec PyProof.Rows L2
/-! what of a class with properties and classmethods is looked at, over K -/
def lookF (K : PySem.W.Frag) (a : Addr) : Option FuncData := match K.lookup a with
  | some ⟨_, _, .func q, _⟩ => some q
  | _ => none
def shapeF (q : FuncData) : Str × Str × Arguments × FuncBody × Scope × Addr × List (Str × Addr) × Addr := (q.name, q.qualname, q.params, q.body, q.scope, q.globals, q.closure, q.builtins)
/-- the def at a, as it was written -/
def seenF (K : PySem.W.Frag) (a : Addr) : He.FnW := (lookF K a).map shapeF
def saidF (x q : Str) (st : Stmt) : He.FnW := some (x, q, defArgs st, .stmts (defBody st), defScope st, mainGlobals, [], builtinsNs)
def keptF (K : PySem.W.Frag) (a : Addr) (q : Str) : Bool := match lookF K a with
  | some z => PySem.W.keepIn K (.ref a) && (PySem.W.codeIn K z.code q && (He.dflB K z.defaults [] && He.kwdB K z.kwdefaults []))
  | none => false
theorem lookF_at {K : PySem.W.Frag} {a : Addr} {z : FuncData} (e : lookF K a = some z) : ∃ oc od osl, K.lookup a = some ⟨oc, od, .func z, osl⟩ := by
  unfold lookF at e
  split at e
  · rename_i c d q s h
    cases e
    exact ⟨c, d, s, h⟩
  · cases e
theorem funF {K : PySem.W.Frag} {a : Addr} {x q : Str} {st : Stmt} (e : seenF K a = saidF x q st) (c : keptF K a q = true) : ∃ z, FunD K x q (defArgs st) (defBody st) (defScope st) [] [] a z := by
  unfold keptF at c
  unfold seenF at e
  cases h : lookF K a with
  | none =>
    rw [h] at c
    cases c
  | some z =>
    rw [h] at c e
    obtain ⟨oc, od, osl, lk⟩ := lookF_at h
    have c' : (PySem.W.keepIn K (.ref a) && (PySem.W.codeIn K z.code q && (He.dflB K z.defaults [] && He.kwdB K z.kwdefaults []))) = true := c
    obtain ⟨kp, c1⟩ := Bool.and_eq_true_iff.mp c'
    obtain ⟨cd, c2⟩ := Bool.and_eq_true_iff.mp c1
    obtain ⟨df, kw⟩ := Bool.and_eq_true_iff.mp c2
    have e' : some (shapeF z) = saidF x q st := e
    obtain ⟨m1, m2, m3, m4, m5, m6, m7, m8, m9, m10, m11, m12, m13, m14, m15⟩ := z
    unfold saidF shapeF at e'
    simp only [Option.some.injEq, Prod.mk.injEq] at e'
    obtain ⟨i1, i2, i3, i4, i5, i6, i7, i8⟩ := e'
    subst i1 i2 i3 i4 i5 i6 i7 i8
    exact ⟨_, ⟨oc, od, m8, m9, m10, m11, m12, m13, m14, osl, rfl, lk, cd, He.dflB_ok df, He.kwdB_ok kw⟩, kp⟩
/-- the first of a record's fields, if it is an object -/
def firstR (K : PySem.W.Frag) (p : Addr) (T : String) : Addr := match PySem.W.recIn K p T with
  | some (.ref g :: _) => g
  | _ => 0
def recB (K : PySem.W.Frag) (p : Addr) (T : String) : Bool := match PySem.W.recIn K p T with
  | some (.ref _ :: _) => true
  | _ => false
theorem recB_ok {K : PySem.W.Frag} {p : Addr} {T : String} (h : recB K p T = true) : ∃ rest, PySem.W.recIn K p T = some (.ref (firstR K p T) :: rest) := by
  unfold recB at h
  unfold firstR
  split at h
  · rename_i g r e
    rw [e]
    exact ⟨r, rfl⟩
  · cases h
def propB (K : PySem.W.Frag) (C : Addr) (f : Str) : Bool := He.eqO (PySem.W.findIn K (.ref C) f) (some (some (.ref (He.ma K C f)))) && (He.eqO (PySem.W.specialIn K (.ref (He.ma K C f)) "__get__") (some (some (.builtin "property.__get__"))) &&
  (decide (PySem.W.takesIn K (.ref (He.ma K C f)) = some true) && recB K (He.ma K C f) "property"))
theorem propB_ok {K : PySem.W.Frag} {C : Addr} {f : Str} (h : propB K C f = true) : PropOf K C f (He.ma K C f) (firstR K (He.ma K C f) "property") := by
  unfold propB at h
  obtain ⟨h1, h⟩ := Bool.and_eq_true_iff.mp h
  obtain ⟨h2, h⟩ := Bool.and_eq_true_iff.mp h
  obtain ⟨h3, h4⟩ := Bool.and_eq_true_iff.mp h
  exact ⟨He.eqO_ok h1, He.eqO_ok h2, of_decide_eq_true h3, recB_ok h4⟩
/-- the record of C.m, a classmethod -/
def cmAt (K : PySem.W.Frag) (C : Addr) (m : Str) : Addr := match PySem.W.findCls K (.ref C) (.type "type") m with
  | some (.get _ (.ref p) _ _) => p
  | _ => 0
def cmB (K : PySem.W.Frag) (C : Addr) (m : Str) : Bool := (match PySem.W.findCls K (.ref C) (.type "type") m with
  | some (.get (.builtin n) (.ref _) .none (.ref D)) => n == "classmethod.__get__" && decide (D = C)
  | _ => false) && (recB K (cmAt K C m) "classmethod" && PySem.W.fnIn K (firstR K (cmAt K C m) "classmethod"))
theorem cmB_ok {K : PySem.W.Frag} {C : Addr} {m : Str} (h : cmB K C m = true) : ClX.CMet K C (.type "type") m (cmAt K C m) (firstR K (cmAt K C m) "classmethod") := by
  unfold cmB at h
  obtain ⟨h1, h⟩ := Bool.and_eq_true_iff.mp h
  obtain ⟨h2, h3⟩ := Bool.and_eq_true_iff.mp h
  refine ⟨?_, recB_ok h2, h3⟩
  unfold cmAt
  split at h1
  · rename_i n p D e
    obtain ⟨k1, k2⟩ := Bool.and_eq_true_iff.mp h1
    rw [e, eq_of_beq k1, of_decide_eq_true k2]
  · cases h1
def readB (K : PySem.W.Frag) (C : Addr) : Bool := PySem.W.readsIn K C (.type "type") && He.eqO (PySem.W.specialIn K (.ref C) "__getattribute__") (some (some (.builtin "type.__getattribute__")))
theorem readB_ok {K : PySem.W.Frag} {C : Addr} (h : readB K C = true) : ClX.CRead K C (.type "type") := by
  unfold readB at h
  obtain ⟨h1, h2⟩ := Bool.and_eq_true_iff.mp h
  exact ⟨h1, He.eqO_ok h2⟩
end Hx
set_option Elab.async false
set_option linter.all false
set_option maxRecDepth 100000
set_option maxHeartbeats 4000000
namespace Gd
open PySem PySem.Spec PyProof.Rows L2
/-! a law's end, its promise kept where nothing is being shown -/
/-- from an abstract heap in which nothing but the script stands -/
theorem law_core {P : Program} {w : World} {K : PySem.W.Frag} {mg mb : Str → Option Value} {k : Nat} {fa a : Addr} {fd : FuncData} {x : Str} {sp : Sp} {z : Shared} {vs : List Value} {H : Hp}
    (KX : K.In z.heap) (g1 : z.heap.Ns mainGlobals mg) (g2 : z.heap.Ns builtinsNs mb) (g3 : ∀ y : Str, y ≠ "__name__" → mb y = bootBuiltins y) (g4 : z.heap.NoLimit) (g5 : z.gens = #[])
    (ha : z.heap.get? a = some { cls := .type "list", data := .seq vs.toArray }) (hr : Room k callerA) (F : ∀ base : Heap, K.In base → base.Ns mainGlobals mg → FnG P w K mg base k fa fd [x] sp) (hbind : ∀ (s : Shared) (u : Value), BindsTo s fd ⟨[u], []⟩ [(x, u)])
    (only : Only H) (hsp : sp [.ref a] H (fun v _ => v = .bl true) fun _ _ _ => False) (ok : HOk P w H z.heap) (hA : ∀ b, H b ≠ none → b = a) (hK : H a ≠ none → K.lookup a = none) :
    codeAny (model P w) callerA (.call (.ref fa) ⟨[.ref a], []⟩) (fun r s' => r = .ok (.ret (.bool true)) ∧ OldK z.heap s'.heap ∧ s'.os = z.os ∧ AllBare s'.gens) z := by
  have dictOut : ∀ {b : Addr} {o : Obj} {es : Array DictEntry} {ep : Nat}, z.heap.get? b = some o → o.data = .dict es ep → H b = none := by
    intro b o es ep e d
    cases q : H b with
    | none => rfl
    | some u =>
      have e' : b = a := hA b (by rw [q]; exact fun y => nomatch y)
      subst e'
      rw [ha] at e
      cases e
      exact nomatch d
  have ns : ∀ {b : Addr} {m : Str → Option Value}, z.heap.Ns b m → (hidT z.heap H).Ns b m := by
    intro b m ⟨o, es, ep, e, d, r⟩
    exact ⟨o, es, ep, hidT_get e (dictOut e d), d, r⟩
  have kin : K.In (hidT z.heap H) := by
    intro b o e
    refine hidT_get (KX b o e) ?_
    cases q : H b with
    | none => rfl
    | some u =>
      have e' : b = a := hA b (by rw [q]; exact fun y => nomatch y)
      subst e'
      rw [hK (by rw [q]; exact fun y => nomatch y)] at e
      cases e
  have mod : Mod K mg (hidT z.heap H) := by
    obtain ⟨mc, h1, h2⟩ := g4
    exact ⟨kin, ns g1, ⟨mb, ns g2, g3⟩, ⟨mc, ns h1, h2⟩⟩
  have e0 : Env0 P w K mg (hidT z.heap H) callerA [] z H :=
    ⟨rfl, mod, fun b o e => of_hidT e, Nat.le_of_eq (hidT_size _ _), trivial, fun b hb => (nomatch (show b ∈ ([] : List Addr) from hb)), ok, .of_eq g5⟩
  refine codeAny_mono ((F _ kin (ns g1)).run callerA [] z H ⟨[.ref a], []⟩ [.ref a] [.ref a] _ _ rfl hr e0 (hbind z (.ref a)) (.cons rfl .nil) hsp) fun r s' h => ?_
  cases r with
  | error e => exact h.elim
  | ok fl =>
    cases fl with
    | next => exact h.elim
    | brk => exact h.elim
    | cont => exact h.elim
    | ret u =>
      obtain ⟨v, H', os, bare, un, ok', r', q⟩ := h
      obtain rfl : v = V.bl true := q
      obtain rfl : u = Value.bool true := r'
      refine ⟨rfl, OldK.of_keep fun b o e => ?_, os, bare⟩
      cases q : H b with
      | none => exact un.keep b o e q (fun y => nomatch (show b ∈ ([] : List Addr) from y)) (fun y => nomatch y)
      | some u =>
        rcases only b with y | ⟨ob, xs, y⟩
        · rw [q] at y
          cases y
        · obtain ⟨e1, _⟩ := ok b _ y
          obtain ⟨e2, _⟩ := ok' b _ (un.frzs b ob _ y)
          rw [e] at e1
          cases e1
          exact e2
theorem law_callG {P : Program} {w : World} {K : PySem.W.Frag} {mg mb : Str → Option Value} {k : Nat} {fa a : Addr} {fd : FuncData} {x : Str} {sp : Sp} {z : Shared} {vs : List Value} {ns : List Int}
    (KX : K.In z.heap) (g1 : z.heap.Ns mainGlobals mg) (g2 : z.heap.Ns builtinsNs mb) (g3 : ∀ y : Str, y ≠ "__name__" → mb y = bootBuiltins y) (g4 : z.heap.NoLimit) (g5 : z.gens = #[])
    (ha : z.heap.get? a = some { cls := .type "list", data := .seq vs.toArray }) (hi : IntsAre vs ns) (hl : ns.length ≤ sizeLine) (hr : Room k callerA) (F : ∀ base : Heap, K.In base → base.Ns mainGlobals mg → FnG P w K mg base k fa fd [x] sp) (hbind : ∀ (s : Shared) (u : Value), BindsTo s fd ⟨[u], []⟩ [(x, u)])
    (hsp : ∀ H : Hp, SqL K H a (ns.map V.int) → sp [.ref a] H (fun v _ => v = .bl true) fun _ _ _ => False) :
    codeAny (model P w) callerA (.call (.ref fa) ⟨[.ref a], []⟩) (fun r s' => r = .ok (.ret (.bool true)) ∧ OldK z.heap s'.heap ∧ s'.os = z.os ∧ AllBare s'.gens) z := by
  have rv := vals_ints hi
  have lv := hi.length
  cases hk : K.lookup a with
  | some o =>
    have e := KX a o hk
    rw [ha] at e
    cases e
    have sq : SqL K (fun _ => none) a (ns.map V.int) := .inr ⟨_, vs.toArray, _, hk, rfl, rfl, rfl, by rw [List.size_toArray, lv]; exact hl, by simpa using rv⟩
    exact law_core KX g1 g2 g3 g4 g5 ha hr F hbind (fun _ => .inl rfl) (hsp _ sq) (fun b u y => nomatch (show (none : Option HO) = some u from y)) (fun b y => absurd rfl y) fun y => absurd rfl y
  | none =>
    let H : Hp := fun b => if b = a then some (.frz { cls := .type "list", data := .seq vs.toArray } (.lst (ns.map V.int))) else none
    have at_a : H a = some (.frz { cls := .type "list", data := .seq vs.toArray } (.lst (ns.map V.int))) := if_pos rfl
    have off : ∀ b, b ≠ a → H b = none := fun b hb => if_neg hb
    refine law_core (H := H) KX g1 g2 g3 g4 g5 ha hr F hbind (fun b => ?_) (hsp H (.inl (.inr ⟨_, at_a⟩))) (fun b u y => ?_) (fun b y => ?_) fun _ => hk
    · by_cases hb : b = a
      · subst hb
        exact .inr ⟨_, _, at_a⟩
      · exact .inl (off b hb)
    · by_cases hb : b = a
      · subst hb
        rw [at_a] at y
        cases y
        exact ⟨ha, by rw [List.length_map]; exact hl, vs, _, rv, ha⟩
      · rw [off b hb] at y
        cases y
    · by_cases hb : b = a
      · exact hb
      · exact absurd (off b hb) y
/-- the end over a head by facts -/
theorem walk_G {l : PySem.W.OpenLaw} {n k : Nat} {q : Program} {loose : List Str} {XP : (Str → Option Value) → Heap → Prop} {YP : World → Heap → Prop} {d : DefRec} {x : Str}
    (hn : l.most = some n) (hn2 : n ≤ sizeLine) (hdf : d.params.defaults = []) (hr : Room k callerA)
    (F : ∀ (w : World) (mg : Str → Option Value) (fa : Addr) (h : Heap), YP w h → h.Ns mainGlobals mg → mg d.name = some (.ref fa) →
      ∃ (K : PySem.W.Frag) (fd : FuncData) (sp : Sp), K.In h ∧ (∀ (s : Shared) (u : Value), BindsTo s fd ⟨[u], []⟩ [(x, u)]) ∧
        (∀ (H : Hp) (a : Addr) (ns : List Int), ns.length ≤ n → (∀ y ∈ ns, Builtin.Int.intBits y ≤ 1048576) → SqL K H a (ns.map V.int) → sp [.ref a] H (fun v _ => v = .bl true) fun _ _ _ => False) ∧
        ∀ base : Heap, K.In base → base.Ns mainGlobals mg → FnG l.prog w K mg base k fa fd [x] sp) :
    PySem.W.WalkO q loose XP YP l.row.toRowW d [] (fun f vs => PySem.call f vs) := by
  refine Att.attach_callB hn hdf fun w s₀ z mg mb fa o pm cd doc a vs ns G Y ho hd hcd hmg hobj hints hlen hbits hg => ?_
  obtain ⟨K, fd, sp, KX, hb, hsp, hF⟩ := F w mg fa _ Y G.T.g hmg
  exact law_callG KX G.T.g G.T.b G.T.builtins G.T.nolimit hg hobj hints (Nat.le_trans hlen hn2) hr hF hb fun H hS => hsp H a ns hlen hbits hS
end Gd
set_option Elab.async false
set_option linter.all false
set_option maxRecDepth 100000
set_option maxHeartbeats 8000000
namespace Hx
open PySem PySem.Spec PyProof.Rows L2
def kinB (K : PySem.W.Frag) (C : Addr) : Bool := He.eqO (PySem.W.findIn K (.ref C) "__class__") (some (some (.builtin "object.__class__"))) && (He.eqO (PySem.W.specialIn K (.builtin "object.__class__") "__get__") (some (some (.builtin "getset_descriptor.__get__"))) &&
  (decide (PySem.W.takesIn K (.builtin "object.__class__") = some true) && (decide (PySem.W.mroIn K C (.type "object") = some true) && decide (PySem.W.kitOne K (.ref C) (.ref C) = some true))))
end Hx
set_option Elab.async false
set_option linter.all false
set_option maxRecDepth 100000
set_option maxHeartbeats 8000000
namespace Hx
open PySem PySem.Spec PyProof.Rows L2
def dataTy : List String := ["NoneType", "bool", "int", "str", "list", "tuple", "dict"]
def eqsB (K : PySem.W.Frag) (C : Addr) : Bool := He.eqO (PySem.W.findIn K (.ref C) "__ne__") (some (some (.builtin "object.__ne__"))) && (dataTy.all fun T => decide (PySem.W.subIn K (.ref C) (.type T) = some false) && (decide (PySem.W.kitOne K (.type T) (.ref C) = some false) && PySem.W.notFirst K C (.type T)))
end Hx
set_option Elab.async false
set_option linter.all false
set_option maxRecDepth 100000
set_option maxHeartbeats 0
namespace K5
open PySem PySem.Spec PyProof.Rows L2 Gd Rl
/-! ### the head -/
def dd (x : Str) (st : Stmt) : He.DefD := ⟨(x, none), x, x, defArgs st, defBody st, defScope st, [], []⟩
def dm (x q : Str) (st : Stmt) : He.DefD := ⟨("Program", some x), x, q, defArgs st, defBody st, defScope st, [], []⟩
def fn : List He.DefD := [dd "is_integer" (Pg.top 17), dd "is_name" (Pg.top 18), dd "are_integers" (Pg.top 19), dd "is_form" (Pg.top 20), dd "are_forms" (Pg.top 21), dd "is_numeral" (Pg.top 22), dd "_check_names" (Pg.top 25), dd "_check_sayings" (Pg.top 26), dd "_check_branches" (Pg.top 27), dd "_is_saying" (Pg.top 28), dd "_is_branch" (Pg.top 29), dd "_places_of" (Pg.top 30), dd "_text_of" (Pg.top 31), dd "_words_of" (Pg.top 32), dd "_parts_of" (Pg.top 33), dd "_form_of" (Pg.top 34), dd "_law_begun" (Pg.top 36), dd "_law_cast" (Pg.top 37), dd "_law_any_of" (Pg.top 38), dd "_law_tags" (Pg.top 39), dd "_law_wide" (Pg.top 40), dd "_law_form" (Pg.top 41), dd "_law_parts" (Pg.top 42), dd "_law_words" (Pg.top 43), dd "_law_arm_lines" (Pg.top 44), dd "_law_lines" (Pg.top 45), dd "_law_sheet" (Pg.top 46), dd "_law_built" (Pg.top 47), dd "_law_thing" (Pg.top 48), dd "_law_near" (Pg.top 49), dd "_law_right" (Pg.top 50), dd "law" (Pg.top 51), dm "__init__" "Program.__init__" (inClass (Pg.top 24) 0), dm "__str__" "Program.__str__" (inClass (Pg.top 24) 11), dm "__eq__" "Program.__eq__" (inClass (Pg.top 24) 9), dm "__len__" "Program.__len__" (inClass (Pg.top 24) 10)]
def fa : List He.Fa := [.glo "is_integer", .glo "is_name", .glo "are_integers", .glo "is_form", .glo "are_forms", .glo "is_numeral", .glo "_check_names", .glo "_check_sayings", .glo "_check_branches", .glo "_is_saying", .glo "_is_branch", .glo "_places_of", .glo "_text_of", .glo "_words_of", .glo "_parts_of", .glo "_form_of", .glo "_law_begun", .glo "_law_cast", .glo "_law_any_of", .glo "_law_tags", .glo "_law_wide", .glo "_law_form", .glo "_law_parts", .glo "_law_words", .glo "_law_arm_lines", .glo "_law_lines", .glo "_law_sheet", .glo "_law_built", .glo "_law_thing", .glo "_law_near", .glo "_law_right", .glo "law", .glo "Program", .free "len", .free "divmod", .free "int", .free "abs", .free "isinstance", .free "bool", .free "str", .free "tuple", .free "all", .free "enumerate", .free "range", .free "repr", .free "max", .free "min", .int "LONGEST_NAME" 8, .int "MOST_NUMBER" 1000000, .int "MOST_VARIABLES" 3, .int "MOST_PLACES" 3, .int "MOST_BRANCHES" 5, .int "MOST_TESTS" 3, .int "MOST_SAYINGS" 3, .str "LETTERS" Pg.letS, .str "FIGURES" Pg.figS, .cls "Program", .noat "Program" "_names", .noat "Program" "_sayings", .noat "Program" "_branches", .noat "Program" "_places", .noat "Program" "_text", .meth "Program" "__str__", .meth "Program" "__eq__", .meth "Program" "__len__", .mkr "Program"]
/-- getters, and read: where, name, qualified name, text -/
def cP (K : PySem.W.Frag) : Addr := He.ga K "Program"
def gAt (f : Str) (K : PySem.W.Frag) : Addr := Hx.firstR K (He.ma K (cP K) f) "property"
def rAt (K : PySem.W.Frag) : Addr := Hx.firstR K (Hx.cmAt K (cP K) "read") "classmethod"
def gl : List ((PySem.W.Frag → Addr) × Str × Str × Stmt) := [(gAt "names", "names", "Program.names", (inClass (Pg.top 24) 2)), (gAt "branches", "branches", "Program.branches", (inClass (Pg.top 24) 4)), (gAt "text", "text", "Program.text", (inClass (Pg.top 24) 6)), (rAt, "read", "Program.read", (inClass (Pg.top 24) 1))]
def el : List Nat := []
def exB (K : PySem.W.Frag) : Bool := (["names", "branches", "text"] : List Str).all (fun f => Hx.propB K (cP K) f) && (Hx.cmB K (cP K) "read" && (Hx.readB K (cP K) && ((gl.all fun g => Hx.keptF K (g.1 K) g.2.2.1) && (Hx.kinB K (cP K) && Hx.eqsB K (cP K)))))
/-- what is come to in n rounds, each address once: what was seen is one number, a sign of it an address -/
def addF (p : Nat × List Addr) (r : Addr) : Nat × List Addr := match Nat.testBit p.1 r with
  | true => p
  | false => (p.1 ||| (1 <<< r), r :: p.2)
def layF (g : Addr → Option Obj) (seen : Nat) (front : List Addr) : Nat × List Addr := front.foldl (fun p a => match g a with
  | some o => (He.refsD o).foldl addF p
  | none => p) (seen, [])
def asF (g : Addr → Option Obj) : Nat → List Addr → Nat → List Addr → List Addr
  | 0, all, _, _ => all
  | n + 1, all, seen, front => match layF g seen front with
    | (s, f) => asF g n (f ++ all) s f
def asK (g : Addr → Option Obj) (n : Nat) : List Addr := cStatics :: asF g n [mainGlobals] (1 <<< mainGlobals) [mainGlobals]
abbrev AlK : Type := (Bool × List He.FnW) × (Bool × List He.FnW)
def obsK (K : PySem.W.Frag) : AlK := (He.obsD fa fn K, (exB K, gl.map fun g => Hx.seenF K (g.1 K)))
def valK : AlK := (He.valD fn, (true, gl.map fun g => Hx.saidF g.2.1 g.2.2.1 g.2.2.2))
def SaysK (K : PySem.W.Frag) : Prop := obsK K = valK
def obsKG (g : Addr → Option Obj) : AlK := obsK (He.frG g (asK g 5))
def hk : PySem.W.Hook where
  α := AlK
  obs := fun s => obsKG s.heap.get?
  val := fun _ => valK
  says := fun _ h => ∃ K : PySem.W.Frag, K.In h ∧ SaysK K
  of := fun _ _ e => ⟨_, He.frG_in, e⟩
  keeps := fun _ _ _ ⟨K, i, c⟩ k => ⟨K, PySem.W.Frag.In.keeps i k, c⟩
abbrev R : PySem.W.OpenRow := PySem.W.OpenLaw.row PySem.Challenge.rw_fallranks_k12_programs_compared
def ob (s : PySem.W.SharedT) : AlK := obsKG (HandSHeadRun.getT s)
theorem ob_eq (s : PySem.W.SharedT) : ob s = hk.obs s.abs := by
  have e : HandSHeadRun.getT s = s.abs.heap.get? := funext (HandSHeadRun.getT_eq s)
  unfold ob
  rw [e]
  rfl
def names0 : List Str := ["_wall", "WrongValue", "InvalidText", "InvalidNames", "InvalidSayings", "InvalidBranches", "MOST_VARIABLES", "MOST_PLACES", "MOST_BRANCHES", "MOST_TESTS", "MOST_SAYINGS", "MOST_NUMBER", "LONGEST_NAME", "LETTERS", "FIGURES", "is_integer", "is_name", "are_integers", "is_form", "are_forms", "is_numeral", "Program", "_check_names", "_check_sayings", "_check_branches", "_is_saying", "_is_branch", "_places_of", "_text_of", "_words_of"]
def names1 : List Str := ["_parts_of", "_form_of", "_law_begun", "_law_cast", "_law_any_of", "_law_tags", "_law_wide", "_law_form", "_law_parts", "_law_words", "_law_arm_lines", "_law_lines", "_law_sheet", "_law_built", "_law_thing", "_law_near", "_law_right"]
def names : List Str := names0 ++ names1
theorem run (w : World) : HandSHeadRun.RunEq R (PySem.W.view R.prog [51]) hk ob 9000 names w := by
  intro os
  kernel_rfl
end K5
set_option Elab.async false
set_option linter.all false
set_option maxRecDepth 100000
set_option maxHeartbeats 8000000
namespace Pg
open PySem PySem.Spec PyProof.Rows L2 Gd Rl
abbrev sSay : Stmt := top 28
abbrev sBr : Stmt := top 29
theorem rp_tup {K : PySem.W.Frag} {H : Hp} {v : V} {ds : List PyData} (h : Rp K H v (.tuple ds)) : ∃ a xs, v = .ref a ∧ SqT K H a xs ∧ DpAll K H xs ds := by
  rcases h with h | ⟨a, kvs, es, _, _, _, e⟩
  · cases h with
    | tup h1 h2 => exact ⟨_, _, rfl, h1, h2⟩
  · cases e
theorem ok_tup {ds : List PyData} (h : okD (.tuple ds) = true) : ds.length ≤ 1000 ∧ okAll ds = true := by
  rw [okD, Bool.and_eq_true] at h
  exact ⟨of_decide_eq_true h.1, h.2⟩
theorem all_getP (l : List PyData) (p : PyData → Bool) : ((List.range l.length).map fun i => p (l.getD i .none)).all id = l.all p := by
  have e : ((List.range l.length).map fun i => p (l.getD i .none)) = l.map p := by
    apply List.ext_getElem
    · simp
    · intro i h1 h2
      simp only [List.length_map, List.length_range] at h1
      simp [List.getD_eq_getElem?_getD, List.getElem?_eq_getElem h1]
  rw [e, List.all_map]
  rfl
theorem iteNE {c A B : Prop} [Decidable c] (hc : ¬ c) (h : A) : if (!decide c) = true then A else B := by
  rw [decide_eq_false hc]
  exact iteT h
section
variable {P : Program} {w : World} {K : PySem.W.Frag} {mg : Str → Option Value} {base : Heap} {f : Addr} {fd : FuncData}
theorem scInts : FnScope ["value", "many", "number"] ["value", "many"] (defScope sInts) := ⟨rfl, rfl, rfl, by decide +kernel, rfl, by decide +kernel, by decide +kernel⟩
theorem ok_areints {fI : Addr} {dI : FuncData} (F : FnP K "are_integers" sInts f fd) (T : Mo mg) (FI : FnP K "is_integer" sInt fI dI) (gI : mg "is_integer" = some (.ref fI)) : FnOk P w K mg base CX0 2 f fd ["value", "many"] (spJ2 K intsB) := by
  have GI : FnOk P w K mg base CX0 1 fI dI ["value"] (spJ K intB) := ok_int FI T
  have bI : Binds K dI ["value"] [] := FI.bindsN fun _ _ _ _ _ _ us hl => match us, hl with | [_], _ => rfl
  refine F.ok scInts (fun vs H Q E h => ?_) (fun cdv A outer s H vs Q E hr h => ?_)
  · obtain ⟨v, d, m, rfl, _⟩ := h
    rfl
  · obtain ⟨v, d, m, rfl, hd, ho, k⟩ := h
    refine ⟨_, PSs.nox <| pss_one (ps_ret (pe_and (pe_callB (call_isD (T := "tuple")) (by rfl) T.isi boot_isinstance (pa_cons (pv 0) (pa_cons (pe_bltn (v := .ty "tuple") (by rfl) T.tuple (by decide +kernel) rfl) pa_nil)))
      (pe_and (pe_cmpR op_eq (pe_callB call_len (by rfl) T.len PySem.boot_len (pa_cons (pv 0) pa_nil)) (pv 1) (nomark _))
      (pe_one (pe_callB (cr_all rfl) (by rfl) T.all (by decide +kernel) (pa_cons (pe_lc (own := [("number", 2)]) (g := gName 2) (tt := tYes) rfl scInts.nd (pi_tup (pv 0)) (blkOk_by (N := ["value", "many", "number"]) (sc := defScope sInts) (by decide +kernel)) (fun _ _ _ _ _ => pg_name (i := 2) scInts.nd rfl (Or.inl rfl)) (fun _ _ _ _ _ => pts_nil)
          (fun _ _ _ _ _ => pe_call GI hr (by rfl) gI FI.kp bI .nil pass0 (pa_cons (pv 2) pa_nil))) pa_nil)))))), ?_⟩
    refine ⟨_, rfl, v, d, _, rfl, hd, kit_tuple d, _, rfl, ?_⟩
    have k0 := k H (Same.refl H)
    cases d with
    | tuple ds =>
      obtain ⟨a, xs, rfl, hs, ha⟩ := rp_tup hd
      obtain ⟨hl, hk⟩ := ok_tup ho
      have lx := dp_len ha
      refine ⟨_, rfl, _, xs.length, rfl, .inr ⟨_, hs, rfl⟩, _, rfl, rfl, _, rfl, ?_⟩
      by_cases h1 : ds.length = m
      · have hB : intsB m (.tuple ds) = ds.all intB := by
          show (decide (ds.length = m) && ds.all intB) = _
          rw [decide_eq_true h1, Bool.true_and]
        rw [show decide (V.int ((xs.length : Nat) : Int) = V.int (m : Int)) = true from decide_eq_true (by rw [lx, h1])]
        refine ⟨_, rfl, a, rfl, ⟨_, hs⟩, lcR (walk_tup (xs := xs)) (n1 := by omega) (fun H' s' => Same.seqT s' hs) (fun i y _ => y = .bl (intB (ds.getD i .none))) (fun _ _ _ _ _ e => e) ?_ ?_⟩
        · rintro D acc i x Ha Hb K2 hi s nD hD ⟨rfl, ex⟩ kk
          obtain ⟨d, ed, hx⟩ := dp_at ha ex
          have eg : ds.getD i .none = d := by
            rw [List.getD_eq_getElem?_getD, ed]
            rfl
          exact ⟨rfl, _, rfl, x, d, rfl, .inl (dp_same s d hx), ok_at hk ed, fun Hc sc => kk _ _ sc (by rw [eg])⟩
        · rintro D Hb ys nw hlen he
          have ey : ys = ((List.range ds.length).map fun i => intB (ds.getD i .none)).map V.bl := by
            rw [List.map_map]
            exact list_of (by rw [hlen, lx]) he
          refine ⟨D, _, rfl, by rw [← ey]; exact SqL.of nw.2.1, ?_⟩
          rw [all_getP, ← hB]
          exact k Hb nw.2.2
      · have hB : intsB m (.tuple ds) = false := by
          show (decide (ds.length = m) && ds.all intB) = _
          rw [decide_eq_false h1, Bool.false_and]
        rw [show decide (V.int ((xs.length : Nat) : Int) = V.int (m : Int)) = false from decide_eq_false fun e => h1 (by
          have := V.int.inj e
          omega)]
        rw [hB] at k0
        exact k0
    | int i => exact k0
    | bool b => exact k0
    | none => exact k0
    | list ds => exact k0
    | str z => exact k0
    | dict ds => exact k0
/-- where are_integers stands -/
def Ints (K : PySem.W.Frag) (mg : Str → Option Value) : Prop := ∃ fM dM, FnP K "are_integers" sInts fM dM ∧ mg "are_integers" = some (.ref fM)
theorem numB_int {d : PyData} (h : numB d = true) : intB d = true := by
  cases d with
  | int i => rfl
  | bool b => cases h
  | none => cases h
  | str z => cases h
  | list es => cases h
  | tuple es => cases h
  | dict es => cases h
theorem form_ints {m : Nat} {d : PyData} (h : intsB (m + 1) d = false) : formB m d = false := by
  cases d with
  | tuple ds =>
    have h2 : (decide (ds.length = m + 1) && ds.all intB) = false := h
    show (decide (ds.length = m + 1) && ds.all numB) = false
    cases e : decide (ds.length = m + 1) with
    | false => rfl
    | true =>
      rw [e, Bool.true_and] at h2
      rw [Bool.true_and]
      cases e3 : ds.all numB with
      | false => rfl
      | true =>
        have : ds.all intB = true := List.all_eq_true.mpr fun x hx => numB_int (List.all_eq_true.mp e3 x hx)
        rw [h2] at this
        cases this
  | int i => rfl
  | bool b => rfl
  | none => rfl
  | str z => rfl
  | list es => rfl
  | dict es => rfl
theorem ints_tup {m : Nat} {d : PyData} (h : intsB m d = true) : ∃ ds, d = .tuple ds ∧ ds.length = m ∧ ∀ x ∈ ds, intB x = true := by
  cases d with
  | tuple ds =>
    have h2 : (decide (ds.length = m) && ds.all intB) = true := h
    obtain ⟨e1, e2⟩ := Bool.and_eq_true_iff.mp h2
    exact ⟨ds, rfl, of_decide_eq_true e1, List.all_eq_true.mp e2⟩
  | int i => cases h
  | bool b => cases h
  | none => cases h
  | str z => cases h
  | list es => cases h
  | dict es => cases h
theorem scForm : FnScope ["value", "many", "number"] ["value", "many"] (defScope sForm) := ⟨rfl, rfl, rfl, by decide +kernel, rfl, by decide +kernel, by decide +kernel⟩
theorem ok_form {fI : Addr} {dI : FuncData} (F : FnP K "is_form" sForm f fd) (T : Mo mg) (FI : FnP K "is_integer" sInt fI dI) (gI : mg "is_integer" = some (.ref fI)) (Z : Ints K mg) : FnOk P w K mg base CX0 3 f fd ["value", "many"] (spJ2 K formB) := by
  obtain ⟨fM, dM, FM, gM⟩ := Z
  have GM : FnOk P w K mg base CX0 2 fM dM ["value", "many"] (spJ2 K intsB) := ok_areints FM T FI gI
  have bM : Binds K dM ["value", "many"] [] := FM.bindsN fun _ _ _ _ _ _ us hl => match us, hl with | [_, _], _ => rfl
  obtain ⟨t1, c1⟩ := T.mnum
  refine F.ok scForm (fun vs H Q E h => ?_) (fun cdv A outer s H vs Q E hr h => ?_)
  · obtain ⟨v, d, m, rfl, _⟩ := h
    rfl
  · obtain ⟨v, d, m, rfl, hd, ho, k⟩ := h
    refine ⟨_, PSs.nox <| pss_one (ps_ret (pe_and (pe_call GM hr (by rfl) gM FM.kp bM .nil pass0 (pa_cons (pv 0) (pa_cons (pe_op op_add (pv 1) pe_int) pa_nil)))
      (pe_one (pe_callB (cr_all rfl) (by rfl) T.all (by decide +kernel) (pa_cons (pe_lc (own := [("number", 2)]) (g := gName 2) (tt := tYes) rfl scForm.nd (pi_tup (pv 0)) (blkOk_by (N := ["value", "many", "number"]) (sc := defScope sForm) (by decide +kernel)) (fun _ _ _ _ _ => pg_name (i := 2) scForm.nd rfl (Or.inl rfl)) (fun _ _ _ _ _ => pts_nil)
          (fun _ _ _ _ _ => pe_chain op_le op_le (pe_un un_neg (pe_glob (v := .int 1000000) (by rfl) c1 ⟨_, rfl⟩)) (pv 2) (pe_glob (v := .int 1000000) (by rfl) c1 ⟨_, rfl⟩))) pa_nil))))), ?_⟩
    refine ⟨_, rfl, _, rfl, _, _, rfl, rfl, v, d, m + 1, rfl, hd, ho, fun H1 s1 => ⟨_, rfl, ?_⟩⟩
    cases hi : intsB (m + 1) d with
    | false =>
      have z := k H1 s1
      rw [form_ints hi] at z
      exact z
    | true =>
      obtain ⟨ds, rfl, hlen, hall⟩ := ints_tup hi
      obtain ⟨a, xs, rfl, hs0, ha⟩ := rp_tup hd
      obtain ⟨hl, hk⟩ := ok_tup ho
      have lx := dp_len ha
      have hs := Same.seqT s1 hs0
      have hB : formB m (.tuple ds) = ds.all numB := by
        show (decide (ds.length = m + 1) && ds.all numB) = _
        rw [decide_eq_true hlen, Bool.true_and]
      refine ⟨_, rfl, a, rfl, ⟨_, hs⟩, lcR (walk_tup (xs := xs)) (n1 := by omega) (fun H' s' => Same.seqT s' hs) (fun i y _ => y = .bl (numB (ds.getD i .none))) (fun _ _ _ _ _ e => e) ?_ ?_⟩
      · rintro D acc i x Ha Hb K2 hi s nD hD ⟨rfl, ex⟩ kk
        obtain ⟨d, ed, hx⟩ := dp_at ha ex
        have eg : ds.getD i .none = d := by
          rw [List.getD_eq_getElem?_getD, ed]
          rfl
        have hd1 := hall d (List.mem_of_getElem? ed)
        cases d with
        | int i =>
          cases hx
          refine ⟨rfl, _, rfl, _, rfl, _, _, rfl, rfl, _, rfl, ?_⟩
          by_cases h2 : (-1000000 : Int) ≤ i
          · rw [show decide (-(1000000 : Int) ≤ i) = true from decide_eq_true h2]
            refine iteT ?_
            refine ⟨_, _, rfl, rfl, kk _ _ (Same.refl _) ?_⟩
            rw [eg]
            show V.bl _ = V.bl (decide (-1000000 ≤ i) && decide (i ≤ 1000000))
            rw [decide_eq_true h2, Bool.true_and]
          · rw [show decide (-(1000000 : Int) ≤ i) = false from decide_eq_false h2]
            refine iteF ?_
            refine kk _ _ (Same.refl _) ?_
            rw [eg]
            show V.bl _ = V.bl (decide (-1000000 ≤ i) && decide (i ≤ 1000000))
            rw [decide_eq_false h2, Bool.false_and]
        | bool b => cases hd1
        | none => cases hd1
        | str z => cases hd1
        | list es => cases hd1
        | tuple es => cases hd1
        | dict es => cases hd1
      · rintro D Hb ys nw hlen2 he
        have ey : ys = ((List.range ds.length).map fun i => numB (ds.getD i .none)).map V.bl := by
          rw [List.map_map]
          exact list_of (by rw [hlen2, lx]) he
        refine ⟨D, _, rfl, by rw [← ey]; exact SqL.of nw.2.1, ?_⟩
        rw [all_getP, ← hB]
        exact k Hb (s1.trans nw.2.2)
theorem scForms : FnScope ["value", "many", "form"] ["value", "many"] (defScope sForms) := ⟨rfl, rfl, rfl, by decide +kernel, rfl, by decide +kernel, by decide +kernel⟩
theorem ok_forms {fI fF : Addr} {dI dF : FuncData} (F : FnP K "are_forms" sForms f fd) (T : Mo mg) (FI : FnP K "is_integer" sInt fI dI) (gI : mg "is_integer" = some (.ref fI)) (FF : FnP K "is_form" sForm fF dF) (gF : mg "is_form" = some (.ref fF)) (Z : Ints K mg) : FnOk P w K mg base CX0 4 f fd ["value", "many"] (spJ2 K formsB) := by
  have GF : FnOk P w K mg base CX0 3 fF dF ["value", "many"] (spJ2 K formB) := ok_form FF T FI gI Z
  have bF : Binds K dF ["value", "many"] [] := FF.bindsN fun _ _ _ _ _ _ us hl => match us, hl with | [_, _], _ => rfl
  refine F.ok scForms (fun vs H Q E h => ?_) (fun cdv A outer s H vs Q E hr h => ?_)
  · obtain ⟨v, d, m, rfl, _⟩ := h
    rfl
  · obtain ⟨v, d, m, rfl, hd, ho, k⟩ := h
    refine ⟨_, PSs.nox <| pss_one (ps_ret (pe_and (pe_callB (call_isD (T := "tuple")) (by rfl) T.isi boot_isinstance (pa_cons (pv 0) (pa_cons (pe_bltn (v := .ty "tuple") (by rfl) T.tuple (by decide +kernel) rfl) pa_nil)))
      (pe_one (pe_callB (cr_all rfl) (by rfl) T.all (by decide +kernel) (pa_cons (pe_lc (own := [("form", 2)]) (g := gName 2) (tt := tYes) rfl scForms.nd (pi_tup (pv 0)) (blkOk_by (N := ["value", "many", "form"]) (sc := defScope sForms) (by decide +kernel)) (fun _ _ _ _ _ => pg_name (i := 2) scForms.nd rfl (Or.inl rfl)) (fun _ _ _ _ _ => pts_nil)
          (fun _ _ _ _ _ => pe_call GF hr (by rfl) gF FF.kp bF .nil pass0 (pa_cons (pv 2) (pa_cons (pv 1) pa_nil)))) pa_nil))))), ?_⟩
    refine ⟨_, rfl, v, d, _, rfl, hd, kit_tuple d, _, rfl, ?_⟩
    have k0 := k H (Same.refl H)
    cases d with
    | tuple ds =>
      obtain ⟨a, xs, rfl, hs, ha⟩ := rp_tup hd
      obtain ⟨hl, hk⟩ := ok_tup ho
      have lx := dp_len ha
      refine ⟨_, rfl, a, rfl, ⟨_, hs⟩, lcR (walk_tup (xs := xs)) (n1 := by omega) (fun H' s' => Same.seqT s' hs) (fun i y _ => y = .bl (formB m (ds.getD i .none))) (fun _ _ _ _ _ e => e) ?_ ?_⟩
      · rintro D acc i x Ha Hb K2 hi s nD hD ⟨rfl, ex⟩ kk
        obtain ⟨d, ed, hx⟩ := dp_at ha ex
        have eg : ds.getD i .none = d := by
          rw [List.getD_eq_getElem?_getD, ed]
          rfl
        exact ⟨rfl, _, rfl, _, rfl, x, d, m, rfl, .inl (dp_same s d hx), ok_at hk ed, fun Hc sc => kk _ _ sc (by rw [eg])⟩
      · rintro D Hb ys nw hlen he
        have ey : ys = ((List.range ds.length).map fun i => formB m (ds.getD i .none)).map V.bl := by
          rw [List.map_map]
          exact list_of (by rw [hlen, lx]) he
        refine ⟨D, _, rfl, by rw [← ey]; exact SqL.of nw.2.1, ?_⟩
        rw [all_getP]
        exact k Hb nw.2.2
    | int i => exact k0
    | bool b => exact k0
    | none => exact k0
    | list ds => exact k0
    | str z => exact k0
    | dict ds => exact k0
/-! ### where the judges stand -/
structure Js (K : PySem.W.Frag) (mg : Str → Option Value) (fI fN fF fS : Addr) (dI dN dF dS : FuncData) : Prop where
  i : FnP K "is_integer" sInt fI dI
  n : FnP K "is_name" sName fN dN
  f : FnP K "is_form" sForm fF dF
  s : FnP K "are_forms" sForms fS dS
  gi : mg "is_integer" = some (.ref fI)
  gn : mg "is_name" = some (.ref fN)
  gf : mg "is_form" = some (.ref fF)
  gs : mg "are_forms" = some (.ref fS)
  z : Ints K mg
theorem scSay : FnScope ["value", "many"] ["value", "many"] (defScope sSay) := ⟨rfl, rfl, rfl, by decide +kernel, rfl, by decide +kernel, by decide +kernel⟩
theorem sayB_len {m : Nat} : ∀ {ds : List PyData}, ds.length ≠ 2 → sayB m (.tuple ds) = false
  | [], _ => rfl
  | [_], _ => rfl
  | [_, _], h => absurd rfl h
  | _ :: _ :: _ :: _, _ => rfl
theorem ok_say {fI fN fF fS : Addr} {dI dN dF dS : FuncData} (F : FnP K "_is_saying" sSay f fd) (T : Mo mg) (J : Js K mg fI fN fF fS dI dN dF dS) : FnOk P w K mg base CX0 4 f fd ["value", "many"] (spJ2 K sayB) := by
  have GN : FnOk P w K mg base CX0 1 fN dN ["value"] (spJ K nameB) := ok_name J.n T
  have GF : FnOk P w K mg base CX0 3 fF dF ["value", "many"] (spJ2 K formB) := ok_form J.f T J.i J.gi J.z
  have bN : Binds K dN ["value"] [] := J.n.bindsN fun _ _ _ _ _ _ us hl => match us, hl with | [_], _ => rfl
  have bF : Binds K dF ["value", "many"] [] := J.f.bindsN fun _ _ _ _ _ _ us hl => match us, hl with | [_, _], _ => rfl
  refine F.ok scSay (fun vs H Q E h => ?_) (fun cdv A outer s H vs Q E hr h => ?_)
  · obtain ⟨v, d, m, rfl, _⟩ := h
    rfl
  · obtain ⟨v, d, m, rfl, hd, ho, k⟩ := h
    have hr1 := hr.mono (show 1 ≤ 3 by decide)
    refine ⟨_, PSs.nox <| pss_one (ps_ret (pe_and (pe_callB (call_isD (T := "tuple")) (by rfl) T.isi boot_isinstance (pa_cons (pv 0) (pa_cons (pe_bltn (v := .ty "tuple") (by rfl) T.tuple (by decide +kernel) rfl) pa_nil)))
      (pe_and (pe_cmpR op_eq (pe_callB call_len (by rfl) T.len PySem.boot_len (pa_cons (pv 0) pa_nil)) pe_int (nomark _))
      (pe_and (pe_call GN hr1 (by rfl) J.gn J.n.kp bN .nil pass0 (pa_cons (pe_ix ix_tup (pv 0) pe_int (fun _ _ => rfl)) pa_nil))
      (pe_one (pe_call GF hr (by rfl) J.gf J.f.kp bF .nil pass0 (pa_cons (pe_ix ix_tup (pv 0) pe_int (fun _ _ => rfl)) (pa_cons (pv 1) pa_nil)))))))), ?_⟩
    refine ⟨_, rfl, v, d, _, rfl, hd, kit_tuple d, _, rfl, ?_⟩
    have k0 := k H (Same.refl H)
    cases d with
    | tuple ds =>
      obtain ⟨a, xs, rfl, hs, ha⟩ := rp_tup hd
      obtain ⟨hl, hk⟩ := ok_tup ho
      have lx := dp_len ha
      refine ⟨_, rfl, _, xs.length, rfl, .inr ⟨_, hs, rfl⟩, rfl, _, rfl, ?_⟩
      by_cases h2 : ds.length = 2
      · match ds, h2, ha, hk with
        | [p, g], _, ha, hk =>
          cases ha with
          | cons hp ha =>
            cases ha with
            | cons hg ha =>
              cases ha
              rename_i v0 v1
              have k1 : okD p = true := ok_at hk (i := 0) rfl
              have k2 : okD g = true := ok_at hk (i := 1) rfl
              refine ⟨_, rfl, a, _, 0, v0, rfl, rfl, hs, rfl, v0, p, rfl, .inl hp, k1, fun H1 s1 => ⟨_, rfl, ?_⟩⟩
              have eB : sayB m (.tuple [p, g]) = (nameB p && formB m g) := rfl
              cases hn : nameB p with
              | false =>
                rw [hn, Bool.false_and] at eB
                have z := k H1 s1
                rw [eB] at z
                exact z
              | true =>
                rw [hn, Bool.true_and] at eB
                refine ⟨_, rfl, a, _, 1, v1, rfl, rfl, Same.seqT s1 hs, rfl, _, rfl, v1, g, m, rfl, .inl (dp_same s1 g hg), k2, fun H2 s2 => ?_⟩
                have z := k H2 (s1.trans s2)
                rw [eB] at z
                exact z
      · rw [show decide (V.int ((xs.length : Nat) : Int) = V.int 2) = false from decide_eq_false fun e => h2 (by
          have := V.int.inj e
          omega)]
        rw [sayB_len h2] at k0
        exact k0
    | int i => exact k0
    | bool b => exact k0
    | none => exact k0
    | list ds => exact k0
    | str z => exact k0
    | dict ds => exact k0
theorem scBr : FnScope ["value", "many", "source", "target", "tests", "changes"] ["value", "many"] (defScope sBr) := ⟨rfl, rfl, rfl, by decide +kernel, rfl, by decide +kernel, by decide +kernel⟩
theorem brB_len {m : Nat} : ∀ {ds : List PyData}, ds.length ≠ 4 → brB m (.tuple ds) = false
  | [], _ => rfl
  | [_], _ => rfl
  | [_, _], _ => rfl
  | [_, _, _], _ => rfl
  | [_, _, _, _], h => absurd rfl h
  | _ :: _ :: _ :: _ :: _ :: _, _ => rfl
theorem forms_tup {m : Nat} : ∀ {d : PyData}, formsB m d = true → ∃ ds, d = .tuple ds
  | .tuple ds, _ => ⟨ds, rfl⟩
  | .none, h => by cases h
  | .bool _, h => by cases h
  | .int _, h => by cases h
  | .str _, h => by cases h
  | .list _, h => by cases h
  | .dict _, h => by cases h
theorem ok_br {fI fN fF fS : Addr} {dI dN dF dS : FuncData} (F : FnP K "_is_branch" sBr f fd) (T : Mo mg) (J : Js K mg fI fN fF fS dI dN dF dS) : FnOk P w K mg base CX0 5 f fd ["value", "many"] (spJ2 K brB) := by
  have GN : FnOk P w K mg base CX0 1 fN dN ["value"] (spJ K nameB) := ok_name J.n T
  have GS : FnOk P w K mg base CX0 4 fS dS ["value", "many"] (spJ2 K formsB) := ok_forms J.s T J.i J.gi J.f J.gf J.z
  have bN : Binds K dN ["value"] [] := J.n.bindsN fun _ _ _ _ _ _ us hl => match us, hl with | [_], _ => rfl
  have bS : Binds K dS ["value", "many"] [] := J.s.bindsN fun _ _ _ _ _ _ us hl => match us, hl with | [_, _], _ => rfl
  obtain ⟨t1, c1⟩ := T.mtes
  refine F.ok scBr (fun vs H Q E h => ?_) (fun cdv A outer s H vs Q E hr h => ?_)
  · obtain ⟨v, d, m, rfl, _⟩ := h
    rfl
  · obtain ⟨v, d, m, rfl, hd, ho, k⟩ := h
    have hr1 := hr.mono (show 1 ≤ 4 by decide)
    refine ⟨_, PSs.nox <| pss_cons (ps_if (PW.pt (pw_or (pt_not (pt_val (pe_callB (call_isD (T := "tuple")) (by rfl) T.isi boot_isinstance (pa_cons (pv 0) (pa_cons (pe_bltn (v := .ty "tuple") (by rfl) T.tuple (by decide +kernel) rfl) pa_nil)))))
        (pw_or1 (pt_cmpR op_ne (pe_callB call_len (by rfl) T.len PySem.boot_len (pa_cons (pv 0) pa_nil)) pe_int (nomark _))))) (pss_one (ps_ret pe_bl)) pss_nil)
      <| pss_cons (ps_asg (pv 0) (pg_tup (by rfl) (pgs_cons (pg_name (i := 2) scBr.nd rfl (.inl rfl)) (pgs_cons (pg_name (i := 3) scBr.nd rfl (.inl rfl)) (pgs_cons (pg_name (i := 4) scBr.nd rfl (.inl rfl)) (pgs_cons (pg_name (i := 5) scBr.nd rfl (.inl rfl)) pgs_nil))))))
      <| pss_cons (ps_if (PW.pt (pw_or (pt_not (pt_val (pe_call GN hr1 (by rfl) J.gn J.n.kp bN .nil pass0 (pa_cons (pv 2) pa_nil)))) (pw_or1 (pt_not (pt_val (pe_call GN hr1 (by rfl) J.gn J.n.kp bN .nil pass0 (pa_cons (pv 3) pa_nil))))))) (pss_one (ps_ret pe_bl)) pss_nil)
      <| pss_cons (ps_if (PW.pt (pw_or (pt_not (pt_val (pe_call GS hr (by rfl) J.gs J.s.kp bS .nil pass0 (pa_cons (pv 4) (pa_cons (pv 1) pa_nil))))) (pw_or1 (pt_cmpR op_gt (pe_callB call_len (by rfl) T.len PySem.boot_len (pa_cons (pv 4) pa_nil)) (pe_glob (v := .int 3) (by rfl) c1 ⟨_, rfl⟩) (nomark _))))) (pss_one (ps_ret pe_bl)) pss_nil)
      <| pss_one (ps_ret (pe_and (pe_call GS hr (by rfl) J.gs J.s.kp bS .nil pass0 (pa_cons (pv 5) (pa_cons (pv 1) pa_nil))) (pe_one (pe_cmpR op_eq (pe_callB call_len (by rfl) T.len PySem.boot_len (pa_cons (pv 5) pa_nil)) (pv 1) (nomark _))))), ?_⟩
    refine ⟨_, rfl, v, d, _, rfl, hd, kit_tuple d, _, rfl, ?_⟩
    have k0 := k H (Same.refl H)
    cases d with
    | tuple ds =>
      obtain ⟨a, xs, rfl, hs, ha⟩ := rp_tup hd
      obtain ⟨hl, hk⟩ := ok_tup ho
      have lx := dp_len ha
      refine iteF ?_
      refine ⟨_, rfl, _, xs.length, rfl, .inr ⟨_, hs, rfl⟩, rfl, _, rfl, ?_⟩
      by_cases h4 : ds.length = 4
      · refine iteNS (by rw [lx, h4]; rfl) ?_
        match ds, h4, ha, hk, hl, lx with
        | [p, q, ts, cs], _, ha, hk, hl, lx =>
          cases ha with
          | @cons v0 _ _ _ a0 ha =>
          cases ha with
          | @cons v1 _ _ _ a1 ha =>
          cases ha with
          | @cons v2 _ _ _ a2 ha =>
          cases ha with
          | @cons v3 _ _ _ a3 ha =>
          cases ha
          have o0 : okD p = true := ok_at hk (i := 0) rfl
          have o1 : okD q = true := ok_at hk (i := 1) rfl
          have o2 : okD ts = true := ok_at hk (i := 2) rfl
          have o3 : okD cs = true := ok_at hk (i := 3) rfl
          have eB : brB m (.tuple [p, q, ts, cs]) = (nameB p && (nameB q && ((formsB m ts && decide (lenD ts ≤ 3)) && (formsB m cs && decide (lenD cs = m))))) := rfl
          refine ⟨_, rfl, a, _, rfl, hs, rfl, _, _, rfl, _, _, rfl, _, _, rfl, _, _, rfl, rfl, ?_⟩
          refine ⟨_, rfl, v0, p, rfl, .inl a0, o0, fun H1 s1 => ⟨_, rfl, ?_⟩⟩
          cases hp : nameB p with
          | false =>
            rw [hp, Bool.false_and] at eB
            have z := k H1 s1
            rw [eB] at z
            exact iteT (iteT z)
          | true =>
          rw [hp, Bool.true_and] at eB
          refine iteF ?_
          refine ⟨_, rfl, v1, q, rfl, .inl (dp_same s1 q a1), o1, fun H2 s2 => ⟨_, rfl, ?_⟩⟩
          have s12 := s1.trans s2
          cases hq : nameB q with
          | false =>
            rw [hq, Bool.false_and] at eB
            have z := k H2 s12
            rw [eB] at z
            exact iteT z
          | true =>
          rw [hq, Bool.true_and] at eB
          refine iteF ?_
          refine ⟨_, rfl, _, rfl, v2, ts, m, rfl, .inl (dp_same s12 ts a2), o2, fun H3 s3 => ⟨_, rfl, ?_⟩⟩
          have s13 := s12.trans s3
          cases ht : formsB m ts with
          | false =>
            rw [ht, Bool.false_and, Bool.false_and] at eB
            have z := k H3 s13
            rw [eB] at z
            exact iteT (iteT z)
          | true =>
          rw [ht, Bool.true_and] at eB
          refine iteF ?_
          obtain ⟨tds, rfl⟩ := forms_tup ht
          obtain ⟨ta, txs, rfl, hts, htd⟩ := rp_tup (.inl (dp_same s13 _ a2))
          have lt := dp_len htd
          refine ⟨_, rfl, _, txs.length, rfl, .inr ⟨_, hts, rfl⟩, _, _, rfl, rfl, _, rfl, ?_⟩
          by_cases h3 : tds.length ≤ 3
          · have eB2 : brB m (.tuple [p, q, .tuple tds, cs]) = (formsB m cs && decide (lenD cs = m)) := by
              rw [eB, show decide (lenD (.tuple tds) ≤ 3) = true from decide_eq_true h3, Bool.true_and]
            rw [show decide ((3 : Int) < ((txs.length : Nat) : Int)) = false from decide_eq_false (by omega)]
            refine iteF ?_
            refine ⟨_, rfl, _, rfl, v3, cs, m, rfl, .inl (dp_same s13 cs a3), o3, fun H4 s4 => ⟨_, rfl, ?_⟩⟩
            have s14 := s13.trans s4
            cases hc : formsB m cs with
            | false =>
              rw [hc, Bool.false_and] at eB2
              have z := k H4 s14
              rw [eB2] at z
              exact z
            | true =>
              rw [hc, Bool.true_and] at eB2
              obtain ⟨cds, rfl⟩ := forms_tup hc
              obtain ⟨ca, cxs, rfl, hcs, hcd⟩ := rp_tup (.inl (dp_same s14 _ a3))
              have lc := dp_len hcd
              refine ⟨_, rfl, _, cxs.length, rfl, .inr ⟨_, hcs, rfl⟩, _, rfl, rfl, ?_⟩
              have e5 : decide (V.int ((cxs.length : Nat) : Int) = V.int (m : Int)) = decide (lenD (.tuple cds) = m) := by
                rw [decide_eq_decide, V.int.injEq]
                show _ ↔ cds.length = m
                omega
              rw [e5, ← eB2]
              exact k H4 s14
          · rw [show decide ((3 : Int) < ((txs.length : Nat) : Int)) = true from decide_eq_true (by omega)]
            have eB2 : brB m (.tuple [p, q, .tuple tds, cs]) = false := by
              rw [eB, show decide (lenD (.tuple tds) ≤ 3) = false from decide_eq_false h3, Bool.false_and]
            have z := k H3 s13
            rw [eB2] at z
            exact iteT z
      · refine iteNE (fun e => h4 ?_) ?_
        · have e2 : ((xs.length : Nat) : Int) = 4 := V.int.inj e
          omega
        · rw [brB_len h4] at k0
          exact k0
    | int i => exact k0
    | bool b => exact k0
    | none => exact k0
    | list ds => exact k0
    | str z => exact k0
    | dict ds => exact k0
end
end Pg
set_option Elab.async false
set_option linter.all false
set_option maxRecDepth 100000
set_option maxHeartbeats 8000000
namespace Te
open PySem PySem.Spec PyProof.Rows L2 Gd Rl
/-! enumerate over what begins as told, here a tuple -/
abbrev ecell (h : Heap) : Obj := ⟨.type "enumerate", none, .fields #[.none, .bool false, .ref h.objs.size, rawInt 0, .none, .none], #[]⟩
theorem enum_new1 {v : Value} {o : Obj} {S : Heap → Prop} (B : Begins v o S) :
    Meets (Builtin.«enumerate.__new__» ⟨[.type "enumerate", v], []⟩) (fun _ R s => S s.heap ∧ R (.ok (.ret (.ref (s.heap.push o).objs.size))) { s with heap := (s.heap.push o).push (ecell s.heap) }) :=
  .of_wp fun prog w A R s h => by
    obtain ⟨hp, g, d, tk, os⟩ := s
    obtain ⟨hS, h⟩ := h
    have sub1 := sub_enumerate
    have it1 : ∀ {A1 : Around} {E1 Q1 : Value → Shared → Prop}, Q1 (.ref hp.objs.size) ⟨hp.push o, g, d, tk, os⟩ → wpAny (model prog w) A1 (pyIter v) Q1 E1 ⟨hp, g, d, tk, os⟩ := fun q => B.iter prog w _ _ ⟨hp, g, d, tk, os⟩ _ hS q
    wp_walk using it1
    refine wpAny_stack_any fun st => wpAny_pure ?_
    split
    · rename_i c _ _ _ _ _
      cases (c == Value.type "enumerate") <;> (wp_walk using it1; exact ⟨_, rfl, h⟩)
    · wp_walk using it1
      exact ⟨_, rfl, h⟩
theorem enum_call1 {prog : Program} {w : World} {A : Around} {E : Value → Shared → Prop} {s : Shared} {v : Value} {o : Obj} {S : Heap → Prop} {Q : Value → Shared → Prop} (B : Begins v o S) (hS : S s.heap)
    (h : ∀ h', IsEnum h' (s.heap.objs.size + 1) s.heap.objs.size 0 .none → h'.get? s.heap.objs.size = some o → (∀ b ob, s.heap.get? b = some ob → h'.get? b = some ob) → Q (.ref (s.heap.objs.size + 1)) { s with heap := h' }) :
    wpAny (model prog w) A (call (.type "enumerate") [v]) Q E s := by
  refine callType_new F.called_enumerate (by decide) (F.typeCall_enumerate_1 _) (F.newCall_enumerate_1 _) (fun obj => F.args_object_init_2 obj _) F.entry_enumerate_new (enum_new1 B) ⟨hS, ?_⟩
  have z1 : (s.heap.push o).objs.size = s.heap.objs.size + 1 := Heap.size_push ..
  show _ ∧ _
  rw [z1]
  have he : IsEnum ((s.heap.push o).push (ecell s.heap)) (s.heap.objs.size + 1) s.heap.objs.size 0 .none := by
    have q := Heap.get?_push_size (s.heap.push o) (o := ecell s.heap) rfl
    rw [z1] at q
    exact q
  exact ⟨⟨_, he, rfl⟩, h _ he (Heap.get?_push_of_some _ (Heap.get?_push_size _ B.free)) fun b ob x => Heap.get?_push_of_some _ (Heap.get?_push_of_some _ x)⟩
/-- the tuple at a as it stands, each item in a new pair behind its index -/
def Iet (K : PySem.W.Frag) (a : Addr) : It :=
  ⟨fun i H => ∃ (xs : List V) (x : V), SqT K H a xs ∧ xs[i]? = some x, fun i H v H' => ∃ T x, v = .ref T ∧ H T = none ∧ H' = upd H T (.tup [.int (i : Nat), x]) ∧ ∀ xs, SqT K H a xs → xs[i]? = some x, fun i H => ∃ xs : List V, SqT K H a xs ∧ xs.length ≤ i⟩
abbrev StE (a e it : Addr) (i : Nat) (h : Heap) : Prop := (∃ old, IsEnum h e it ((i : Nat) : Int) old) ∧ h.IsTupleIter it a i ∧ (e ≠ it ∧ a ≠ it ∧ e ≠ a)
theorem two {b e it : Addr} (h : b ∈ [e, it]) : b = e ∨ b = it := by simpa using h
theorem turn_enumT {P : Program} {w : World} {K : PySem.W.Frag} {elts : List Expr} {kk : Nat} {tpos : Pos} (a e it : Addr) : Turn P w K (.Tuple elts kk tpos) (Iet K a) [e, it] e (StE a e it) where
  mem := by simp
  obj := fun i h st b hb => by
    obtain ⟨⟨old, he⟩, ⟨o, ho, hc, hd⟩, _⟩ := st
    rcases two hb with rfl | rfl
    · exact ⟨_, he, fun v q => nomatch q⟩
    · exact ⟨o, ho, fun v q => by rw [hd] at q; cases q⟩
  keep := fun i h h' st k => let ⟨⟨old, he⟩, hi, hne⟩ := st; ⟨⟨old, k e (by simp) _ he⟩, hi.at fun o q => k it (by simp) o q, hne⟩
  item := by
    intro X hP hw hK hc i pins s σ H E I hf st hg
    subst hP hw hK
    obtain ⟨⟨old, he⟩, hit, n1, n2, n3⟩ := st
    obtain ⟨xs, x, hq, hx⟩ := hg
    obtain ⟨its, rv, p, hz⟩ := I.tuple hq
    obtain ⟨u, hu, ru⟩ := rv.get hx
    have hel : e < s.heap.objs.size := Heap.lt_size he
    have hil : it < s.heap.objs.size := by
      obtain ⟨_, q, _⟩ := hit
      exact Heap.lt_size q
    have D := Draws.tuple (prog := X.prog) (w := X.w) (A := X.A.in1) (I.ok.hd hc) it a n2 its.toArray
    have hlt : i < its.toArray.size := by
      have := (List.getElem?_eq_some_iff.mp hu).1
      simpa using this
    refine wpAny_pyNext_enum_itemD D he ⟨hit, p⟩ hlt n1 (fun hm => ?_) fun y h' tk hy ho hst' hT hsz hk => ?_
    · rcases (by simpa using hm : e = it ∨ e = a) with q | q
      · exact n1 q
      · exact n3 q
    · have ey : y = u := by
        have h1 : its[i]? = some y := by simpa using hy
        rw [hu] at h1
        exact (Option.some.inj h1).symm
      subst ey
      refine ⟨_, rfl, wpAny_letOwnedTupleGo_enum (s := { s with heap := h', toks := tk + 1 }) ho fun h'' he' sb => ?_⟩
      have hT2 : h''.get? s.heap.objs.size = some { cls := .type "tuple", data := .seq #[.int i tk, y] } := (sb.2 _ (Nat.ne_of_gt hel)).trans hT
      have new : ObjOk X.prog X.w (upd H s.heap.objs.size (.tup [.int (i : Nat), x])) h'' s.heap.objs.size (.tup [.int (i : Nat), x]) :=
        ⟨by show 2 ≤ sizeLine; decide, [.int i tk, y], .cons ⟨_, rfl⟩ (.cons ru .nil), ⟨_, hT2, rfl, _, rfl⟩⟩
      have I1 : Inv X pins σ (upd H s.heap.objs.size (.tup [.int (i : Nat), x])) { s with heap := h'', toks := tk + 1 } :=
        I.turnedNew (ch := [e, it]) (fun b ob hb q => (sb.2 b (fun z => hb (by simp [z]))).trans (hk b ob (fun z => hb (by simp [z])) (fun z => hb (by simp [z])) q)) hf (Nat.le_refl _) new
      refine ⟨.ref s.heap.objs.size, _, I1, rfl, ⟨_, x, rfl, I.hok.fresh (Nat.le_refl _), rfl, fun ys hys => by rw [I.tuple_inj hys hq]; exact hx⟩, ⟨⟨y, ?_⟩, hst'.1.at fun o q => (sb.2 it (Ne.symm n1)).trans q, n1, n2, n3⟩, fun b hb => ?_⟩
      · rw [show ((i + 1 : Nat) : Int) = (i : Int) + 1 by omega]
        exact he'
      · have hb' : b < s.heap.objs.size := by
          rcases two hb with rfl | rfl
          · exact hel
          · exact hil
        rw [upd_ne (Nat.ne_of_lt hb')]
        exact (hf b hb).1
  done := by
    intro X hP hw hK hc i pins s σ H E I hf st hg
    subst hP hw hK
    obtain ⟨⟨old, he⟩, hit, n1, n2, n3⟩ := st
    obtain ⟨xs, hq, hx⟩ := hg
    obtain ⟨its, rv, p, hz⟩ := I.tuple hq
    obtain ⟨f0, f1, f2, f3, f4, f5⟩ := hf it (by simp)
    have hl := rv.length
    have hnone : its.toArray[i]? = none := by
      simp
      omega
    have D : Draws X.prog X.w X.A.in1 it [it, a] i (fun _ _ => False) (fun j h => j = i ∧ h.IsTupleIter it a i ∧ h.IsTuple a its.toArray) :=
      { live := fun j h ⟨_, q, _⟩ => let ⟨o, ho, _⟩ := q; ⟨o, ho⟩
        frame := fun j h h' ⟨e1, q1, q2⟩ k => ⟨e1, q1.at fun o e => k it (by simp) o e, q2.at fun o e => k a (by simp) o e⟩
        item := fun j s Q E hj ⟨e1, _⟩ _ => absurd e1 (Nat.ne_of_lt hj)
        done := fun s Q E ⟨_, q1, q2⟩ hE => wpAny_nextOf_tuple_end (I.ok.hd hc) q1 q2 hnone hE }
    exact wpAny_pyNext_enum_endD D he ⟨rfl, hit, p⟩ fun h' eb => ⟨rfl, I.turned (t' := s.toks) (fun b o hb q => eb b o hb q) f0 f1 f3 f4 f5⟩
  self := fun A i s Q E st h => let ⟨⟨_, he⟩, _⟩ := st; wpAny_pyIter_enum he h
def iEnumT (K : PySem.W.Frag) (ta : TA) : TI := fun σ H R => ta σ H fun vs H1 => ∃ a xs, vs = [.ref a] ∧ SqT K H1 a xs ∧ R (Iet K a) H1
theorem pi_enumT {X : Cx} {e : Expr} {ta : TA} {p pos tpos : Pos} {elts : List Expr} {kk : Nat} (hg : Gl X "enumerate") (hm : X.mg "enumerate" = none) (ha : PA X [e] ta) (hs : starEach [e] X.env = [(false, eval e X.env)] := by rfl) :
    PI X (.Tuple elts kk tpos) (.Call (.Name "enumerate" p) [e] [] pos) (iEnumT X.K ta) := by
  refine ⟨fun pins s σ H R I h => ?_⟩
  refine Call_ (ld_blt I hg hm boot_enumerate (PyProof.Rows.callWith_type1 (thn (ha.run pos pins s σ H _ I h) fun us s1 ⟨vs, H1, I1, r1, q1⟩ => ?_) hs rfl))
  obtain ⟨a, xs, ex, hq, q⟩ := q1
  subst ex
  cases r1 with
  | cons r rr =>
    cases rr
    cases r
    obtain ⟨its, rv, p', hz⟩ := I1.tuple hq
    have pt : s1.heap.IsTuple a its.toArray := p'
    have hal : a < s1.heap.objs.size := by
      obtain ⟨_, q, _⟩ := pt
      exact Heap.lt_size q
    refine enum_call1 (begins_tuple a its.toArray) pt fun h' he hit hk => wpAny_pyIter_enum he ?_
    have I2 : Inv X pins σ H1 { s1 with heap := h' } := I1.kept (t' := s1.toks) hk
    refine ⟨s1.heap.objs.size + 1, [s1.heap.objs.size + 1, s1.heap.objs.size], _, _, H1, rfl, I2, turn_enumT a (s1.heap.objs.size + 1) s1.heap.objs.size, ⟨⟨.none, he⟩, ⟨_, hit, rfl, rfl⟩, Nat.succ_ne_self _, Nat.ne_of_lt hal, Nat.ne_of_gt (Nat.lt_succ_of_lt hal)⟩, fun b hb => ?_, q⟩
    have hle : s1.heap.objs.size ≤ b := by
      rcases two hb with rfl | rfl
      · exact Nat.le_add_right _ _
      · exact Nat.le_refl _
    exact I1.fpOk hle (I1.hok.fresh hle)
theorem walk_enumT {K : PySem.W.Frag} {a : Addr} {xs : List V} : Walk (Iet K a) xs.length (fun H => SqT K H a xs) (YPair (fun i => some (.int (i : Nat))) (fun i => xs[i]?)) :=
  ⟨fun i _ hi q => ⟨xs, xs[i], q, by simp [hi]⟩, fun _ q => ⟨xs, q, Nat.le_refl _⟩, fun i H v H' _ q y => let ⟨T, x, h1, h2, h3, h4⟩ := y; ⟨T, .int (i : Nat), x, h1, h2, h3, rfl, h4 xs q⟩⟩
end Te
set_option Elab.async false
set_option linter.all false
set_option maxRecDepth 100000
set_option maxHeartbeats 8000000
namespace Pg
open PySem PySem.Spec PyProof.Rows L2 Gd Rl Te
abbrev sCN : Stmt := top 25
abbrev sCS : Stmt := top 26
abbrev sPl : Stmt := top 30
/-! ### the parts of a program -/
structure Arm where
  src : Str
  tgt : Str
  tests : List (List Int)
  turns : List (List Int)
def fD (f : List Int) : PyData := .tuple (f.map PyData.int)
def sayD (s : Str × List Int) : PyData := .tuple [.str s.1, fD s.2]
def armD (a : Arm) : PyData := .tuple [.str a.src, .str a.tgt, .tuple (a.tests.map fD), .tuple (a.turns.map fD)]
def namesD (ns : List Str) : PyData := .tuple (ns.map PyData.str)
def saysD (ss : List (Str × List Int)) : PyData := .tuple (ss.map sayD)
def armsD (as : List Arm) : PyData := .tuple (as.map armD)
theorem iteDN {c A B : Prop} [Decidable c] (hc : ¬ c) (h : B) : if decide c = true then A else B := by
  rw [decide_eq_false hc]
  exact iteF h
theorem iteDY {c A B : Prop} [Decidable c] (hc : c) (h : A) : if decide c = true then A else B := by
  rw [decide_eq_true hc]
  exact iteT h
theorem iteBF {b : Bool} {A B : Prop} (hb : b = false) (h : B) : if b = true then A else B := by
  rw [hb]
  exact iteF h
theorem iteBT {b : Bool} {A B : Prop} (hb : b = true) (h : A) : if b = true then A else B := by
  rw [hb]
  exact iteT h
theorem notT {b : Bool} (h : b = true) : (!b) = false := by rw [h]; rfl
/-! ### a part of a tuple -/
def rSlTR (K : PySem.W.Frag) : V → Option Int → Option Int → Hp → VK → Prop := fun x lo hi H Q => ∃ a xs, x = .ref a ∧ SqT K H a xs ∧ ∀ p H2, Same H H2 → SqT K H2 p (cutV xs lo hi) → Q (.ref p) H2
theorem cut_whole {xs : List V} {lo hi : Option Int} (h : HT.sIx xs.length 0 lo = 0 ∧ HT.sIx xs.length xs.length hi = xs.length) : cutV xs lo hi = xs := by
  unfold cutV
  rw [h.1, h.2, List.drop_zero, Nat.sub_zero, List.take_length]
theorem cut_take {xs : List V} {i : Nat} (h : i ≤ xs.length) : cutV xs none (some (i : Int)) = xs.take i := by
  unfold cutV
  rw [HT.sIx_none, HT.sIx_nat, List.drop_zero, Nat.sub_zero, Nat.min_eq_left h]
theorem sl_tupR {X : Cx} : SlR X (rSlTR X.K) := by
  intro pins s σ H x v vl vu lo hi sl Q I rx hs pl pu h
  obtain ⟨a, xs, e, hx, q⟩ := h
  refine sl_tupA pins s σ H x v vl vu lo hi sl Q I rx hs pl pu ⟨a, xs, e, hx, fun w => q a H (Same.refl H) (by rw [cut_whole w]; exact hx), fun _ p np => q p _ (same_new np) (SqT.of upd_same)⟩
theorem dp_strs {K : PySem.W.Frag} {H : Hp} : ∀ {ns : List Str} {vs : List V}, DpAll K H vs (ns.map PyData.str) → vs = ns.map V.str
  | [], _, h => by
    cases h
    rfl
  | n :: ns, _, h => by
    cases h with
    | cons a b =>
      cases a
      rw [List.map_cons, dp_strs b]
theorem flat_strs (ns : List Str) : (ns.map V.str).all flatV = true := by
  rw [List.all_map]
  exact List.all_eq_true.mpr fun _ _ => rfl
theorem inV_strs (z : Str) : ∀ ns : List Str, inV (.str z) (ns.map V.str) = ns.contains z
  | [] => rfl
  | n :: ns => by
    have ih := inV_strs z ns
    unfold inV at ih ⊢
    rw [List.map_cons, List.any_cons, ih, List.contains_cons]
    congr 1
    show (n == z) = (z == n)
    rw [Bool.eq_iff_iff]
    simp only [beq_iff_eq]
    exact eq_comm
theorem name_len {z : Str} (h : nameS z = true) : z.length ≤ 1000 := by
  have lz : z.length = z.cps.toList.length := by
    rw [Array.length_toList]
    rfl
  unfold nameS at h
  rw [lz]
  cases e : z.cps.toList with
  | nil => exact Nat.zero_le _
  | cons c r =>
    rw [e] at h
    simp only [Bool.and_eq_true, decide_eq_true_eq] at h
    omega
section
variable {P : Program} {w : World} {K : PySem.W.Frag} {mg : Str → Option Value} {base : Heap} {f : Addr} {fd : FuncData}
/-! ### _check_names -/
structure OkN (ns : List Str) : Prop where
  one : 1 ≤ ns.length
  three : ns.length ≤ 3
  nm : ∀ z ∈ ns, nameS z = true
  nd : ns.Nodup
theorem not_ahead {ns : List Str} (h : ns.Nodup) {i : Nat} {z : Str} (e : ns[i]? = some z) : (ns.take i).contains z = false := by
  rw [Bool.eq_false_iff]
  intro hc
  have hm : z ∈ ns.take i := by simpa using hc
  obtain ⟨j, hj, ej⟩ := List.getElem_of_mem hm
  have hj2 : j < i ∧ j < ns.length := by
    rw [List.length_take] at hj
    omega
  rw [List.getElem_take] at ej
  obtain ⟨hi, ei⟩ := List.getElem?_eq_some_iff.mp e
  exact List.pairwise_iff_getElem.mp h j i hj2.2 hi hj2.1 (by rw [ej, ei])
def spCN (K : PySem.W.Frag) : Sp := fun vs H Q _ => ∃ (v : V) (ns : List Str), vs = [v] ∧ Dp K H v (namesD ns) ∧ OkN ns ∧ ∀ H', Same H H' → Q .non H'
theorem scCN : FnScope ["names", "at", "name"] ["names"] (defScope sCN) := ⟨rfl, rfl, rfl, by decide +kernel, rfl, by decide +kernel, by decide +kernel⟩
theorem ok_cn {fI fN fF fS : Addr} {dI dN dF dS : FuncData} (F : FnP K "_check_names" sCN f fd) (T : Mo mg) (J : Js K mg fI fN fF fS dI dN dF dS) : FnOk P w K mg base CX0 2 f fd ["names"] (spCN K) := by
  have GN : FnOk P w K mg base CX0 1 fN dN ["value"] (spJ K nameB) := ok_name J.n T
  have bN : Binds K dN ["value"] [] := J.n.bindsN fun _ _ _ _ _ _ us hl => match us, hl with | [_], _ => rfl
  obtain ⟨t1, c1⟩ := T.mvar
  refine F.ok scCN (fun vs H Q E h => ?_) (fun cdv A outer s H vs Q E hr h => ?_)
  · obtain ⟨v, d, rfl, _⟩ := h
    rfl
  · obtain ⟨v, ns, rfl, hd, ok, k⟩ := h
    refine ⟨_, PSs.nox <| pss_cons (ps_if (PW.pt (pw_or (pt_not (pt_val (pe_callB (call_isD (T := "tuple")) (by rfl) T.isi boot_isinstance (pa_cons (pv 0) (pa_cons (pe_bltn (v := .ty "tuple") (by rfl) T.tuple (by decide +kernel) rfl) pa_nil)))))
        (pw_or1 (pt_not (pt_truth (pv 0) (by intro _; rfl)))))) (pss_one ps_never) pss_nil)
      <| pss_one (ps_for PassesOwn.never rfl (pi_enumT (by rfl) T.enum (pa_cons (pv 0) pa_nil)) (pg_tup (by rfl) (pgs_cons (pg_name (i := 1) scCN.nd rfl (.inl rfl)) (pgs_cons (pg_name (i := 2) scCN.nd rfl (.inl rfl)) pgs_nil)))
          (pss_one (ps_if (PW.pt (pw_or (pt_cmpR op_ge (pv 1) (pe_glob (v := .int 3) (by rfl) c1 ⟨_, rfl⟩) (nomark _))
            (pw_or (pt_not (pt_val (pe_call GN hr (by rfl) J.gn J.n.kp bN .nil pass0 (pa_cons (pv 2) pa_nil)))) (pw_or1 (pt_cmpR op_in_seq (pv 2) (pe_slice (r := rSlTR K) sl_tupR (pv 0) po_none (po_some (pv 1))) (by rfl)))))) (pss_one ps_never) pss_nil))), ?_⟩
    obtain ⟨a, xs, rfl, hs, ha⟩ := rp_tup (.inl hd)
    have ex := dp_strs ha
    subst ex
    refine ⟨_, rfl, _, _, _, rfl, .inl hd, kit_tuple _, _, rfl, ?_⟩
    refine iteF ?_
    refine ⟨_, rfl, true, .inr (.inl ⟨_, hs, ?_⟩), ?_⟩
    · cases ns with
      | nil => exact absurd ok.one (by decide)
      | cons n ns => rfl
    refine iteF ?_
    refine ⟨_, rfl, a, _, rfl, hs, for_it walk_enumT (fun i σ H' => ∃ x1 x2, σ = [some (.ref a), x1, x2] ∧ Same H H') ⟨_, _, rfl, Same.refl H⟩ (fun i σ H' _ ⟨_, _, _, s⟩ => Same.seqT s hs) ?_ ?_⟩
    · rintro i x σ H1 H2 hi ⟨x1, x2, rfl, s1⟩ ⟨T, y, z, rfl, nT, rfl, ey, ez⟩
      cases ey
      have hi' : i < ns.length := by simpa using hi
      obtain ⟨nm, en, rfl⟩ : ∃ nm, ns[i]? = some nm ∧ z = .str nm := by
        replace ez : (ns.map V.str)[i]? = some z := ez
        rw [List.getElem?_map] at ez
        cases e : ns[i]? with
        | none =>
          rw [e] at ez
          cases ez
        | some nm =>
          rw [e] at ez
          exact ⟨nm, rfl, (Option.some.inj ez).symm⟩
      have hnm : nameS nm = true := ok.nm nm (List.mem_of_getElem? en)
      have s2 : Same H (upd H1 T (.tup [.int (i : Nat), .str nm])) := s1.trans (same_new nT)
      refine ⟨T, _, rfl, SqT.of upd_same, rfl, _, _, rfl, _, _, rfl, rfl, ?_⟩
      refine ⟨_, rfl, _, _, rfl, rfl, _, rfl, ?_⟩
      have h3 := ok.three
      refine iteDN (by omega) ?_
      refine ⟨_, rfl, _, .str nm, rfl, .inl (.str _), decide_eq_true (name_len hnm), fun H3 s3 => ⟨_, rfl, ?_⟩⟩
      refine iteBF (notT hnm) ?_
      have s13 := s2.trans s3
      refine ⟨_, rfl, _, rfl, _, rfl, _, rfl, a, _, rfl, Same.seqT s13 hs, fun p H4 s4 hp => ?_⟩
      rw [cut_take (by rw [List.length_map]; omega), ← List.map_take] at hp
      refine ⟨p, _, rfl, .inr hp, rfl, flat_strs _, _, rfl, ?_⟩
      refine iteBF (by rw [if_neg Bool.false_ne_true, inV_strs]; exact not_ahead ok.nd en) ?_
      exact ⟨_, _, rfl, s13.trans s4⟩
    · rintro σ H' ⟨x1, x2, rfl, s1⟩
      exact k H' s1
/-! ### _check_sayings -/
theorem say_ok {m : Nat} (hm : m ≤ 900) {s : Str × List Int} (h : sayB m (sayD s) = true) : okD (sayD s) = true := by
  have h1 : nameS s.1 = true ∧ formB m (fD s.2) = true := by
    have : (nameS s.1 && formB m (fD s.2)) = true := h
    simpa using this
  have h2 : (decide ((s.2.map PyData.int).length = m + 1) && (s.2.map PyData.int).all numB) = true := h1.2
  have h3 : s.2.length = m + 1 := by
    rw [Bool.and_eq_true] at h2
    have := of_decide_eq_true h2.1
    simpa using this
  have hi : ∀ l : List Int, okAll (l.map PyData.int) = true := fun l => by
    induction l with
    | nil => rfl
    | cons a l ih =>
      rw [List.map_cons, okAll, ih]
      rfl
  have hf : okD (fD s.2) = true := by
    unfold fD
    rw [okD, hi, decide_eq_true (by rw [List.length_map]; omega)]
    rfl
  unfold sayD
  simp only [okD, okAll, hf, decide_eq_true (name_len h1.1)]
  rfl
structure OkS (m : Nat) (ss : List (Str × List Int)) : Prop where
  three : ss.length ≤ 3
  sy : ∀ s ∈ ss, sayB m (sayD s) = true
def spCS (K : PySem.W.Frag) : Sp := fun vs H Q _ => ∃ (v : V) (m : Nat) (ss : List (Str × List Int)), vs = [v, .int m] ∧ m ≤ 900 ∧ Dp K H v (saysD ss) ∧ OkS m ss ∧ ∀ H', Same H H' → Q .non H'
theorem scCS : FnScope ["sayings", "many", "at", "saying"] ["sayings", "many"] (defScope sCS) := ⟨rfl, rfl, rfl, by decide +kernel, rfl, by decide +kernel, by decide +kernel⟩
theorem map_at {α : Type} {K : PySem.W.Frag} {H : Hp} {g : α → PyData} {l : List α} {xs : List V} (ha : DpAll K H xs (l.map g)) {i : Nat} {z : V} (e : xs[i]? = some z) : ∃ s, l[i]? = some s ∧ Dp K H z (g s) := by
  obtain ⟨d, e1, e2⟩ := dp_at ha e
  rw [List.getElem?_map] at e1
  cases h : l[i]? with
  | none =>
    rw [h] at e1
    cases e1
  | some s =>
    rw [h] at e1
    have e3 : g s = d := Option.some.inj e1
    exact ⟨s, rfl, e3 ▸ e2⟩
theorem ok_cs {fI fN fF fS fY : Addr} {dI dN dF dS dY : FuncData} (F : FnP K "_check_sayings" sCS f fd) (T : Mo mg) (J : Js K mg fI fN fF fS dI dN dF dS) (FY : FnP K "_is_saying" sSay fY dY) (gY : mg "_is_saying" = some (.ref fY)) : FnOk P w K mg base CX0 5 f fd ["sayings", "many"] (spCS K) := by
  have GY : FnOk P w K mg base CX0 4 fY dY ["value", "many"] (spJ2 K sayB) := ok_say FY T J
  have bY : Binds K dY ["value", "many"] [] := FY.bindsN fun _ _ _ _ _ _ us hl => match us, hl with | [_, _], _ => rfl
  obtain ⟨t1, c1⟩ := T.msay
  refine F.ok scCS (fun vs H Q E h => ?_) (fun cdv A outer s H vs Q E hr h => ?_)
  · obtain ⟨v, m, ss, rfl, _⟩ := h
    rfl
  · obtain ⟨v, m, ss, rfl, hm, hd, ok, k⟩ := h
    refine ⟨_, PSs.nox <| pss_cons (ps_if (pt_not (pt_val (pe_callB (call_isD (T := "tuple")) (by rfl) T.isi boot_isinstance (pa_cons (pv 0) (pa_cons (pe_bltn (v := .ty "tuple") (by rfl) T.tuple (by decide +kernel) rfl) pa_nil))))) (pss_one ps_never) pss_nil)
      <| pss_one (ps_for PassesOwn.never rfl (pi_enumT (by rfl) T.enum (pa_cons (pv 0) pa_nil)) (pg_tup (by rfl) (pgs_cons (pg_name (i := 2) scCS.nd rfl (.inl rfl)) (pgs_cons (pg_name (i := 3) scCS.nd rfl (.inl rfl)) pgs_nil)))
          (pss_one (ps_if (PW.pt (pw_or (pt_cmpR op_ge (pv 2) (pe_glob (v := .int 3) (by rfl) c1 ⟨_, rfl⟩) (nomark _))
            (pw_or1 (pt_not (pt_val (pe_call GY hr (by rfl) gY FY.kp bY .nil pass0 (pa_cons (pv 3) (pa_cons (pv 1) pa_nil)))))))) (pss_one ps_never) pss_nil))), ?_⟩
    obtain ⟨a, xs, rfl, hs, ha⟩ := rp_tup (.inl hd)
    have lx := dp_len ha
    rw [List.length_map] at lx
    refine ⟨_, rfl, _, _, _, rfl, .inl hd, kit_tuple _, _, rfl, ?_⟩
    refine iteF ?_
    refine ⟨_, rfl, a, _, rfl, hs, for_it walk_enumT (fun i σ H' => ∃ x1 x2, σ = [some (.ref a), some (.int m), x1, x2] ∧ Same H H') ⟨_, _, rfl, Same.refl H⟩ (fun i σ H' _ ⟨_, _, _, s⟩ => Same.seqT s hs) ?_ ?_⟩
    · rintro i x σ H1 H2 hi ⟨x1, x2, rfl, s1⟩ ⟨T, y, z, rfl, nT, rfl, ey, ez⟩
      cases ey
      obtain ⟨sy, es, hz⟩ := map_at ha ez
      have hsy := ok.sy sy (List.mem_of_getElem? es)
      have s2 : Same H (upd H1 T (.tup [.int (i : Nat), z])) := s1.trans (same_new nT)
      refine ⟨T, _, rfl, SqT.of upd_same, rfl, _, _, rfl, _, _, rfl, rfl, ?_⟩
      refine ⟨_, rfl, _, _, rfl, rfl, _, rfl, ?_⟩
      have h3 := ok.three
      refine iteDN (by omega) ?_
      refine ⟨_, rfl, _, rfl, z, sayD sy, m, rfl, .inl (dp_same s2 _ hz), say_ok hm hsy, fun H3 s3 => ⟨_, rfl, ?_⟩⟩
      refine iteBF (notT hsy) ?_
      exact ⟨_, _, rfl, s2.trans s3⟩
    · rintro σ H' ⟨x1, x2, rfl, s1⟩
      exact k H' s1
end
end Pg
set_option Elab.async false
set_option linter.all false
set_option maxRecDepth 100000
set_option maxHeartbeats 8000000
namespace Pg
open PySem PySem.Spec PyProof.Rows L2 Gd Rl Te
/-! ### the places -/
def standS (ss : List (Str × List Int)) (as : List Arm) : List Str := ss.map Prod.fst ++ (as.map fun a => [a.src, a.tgt]).flatten
def firstB (l : List Str) (i : Nat) : Bool := !(l.take i).contains (l.getD i "")
def firsts (l : List Str) : List Str := ((List.range l.length).filter (firstB l)).map fun i => l.getD i ""
def placesS (ss : List (Str × List Int)) (as : List Arm) : List Str := firsts (standS ss as)
theorem firsts_le (l : List Str) : (firsts l).length ≤ l.length := by
  unfold firsts
  rw [List.length_map]
  exact Nat.le_trans (List.length_filter_le _ _) (by rw [List.length_range]; exact Nat.le_refl _)
theorem flat_two (as : List Arm) : ((as.map fun a => [a.src, a.tgt]).flatten).length = 2 * as.length := by
  induction as with
  | nil => rfl
  | cons a as ih =>
    rw [List.map_cons, List.flatten_cons, List.length_append, ih]
    show 2 + 2 * as.length = 2 * (as.length + 1)
    omega
theorem stand_len (ss : List (Str × List Int)) (as : List Arm) : (standS ss as).length = ss.length + 2 * as.length := by
  unfold standS
  rw [List.length_append, List.length_map, flat_two]
theorem firsts_app (l r : List Str) : (firsts l).length ≤ (firsts (l ++ r)).length := by
  unfold firsts
  rw [List.length_map, List.length_map, List.length_append, List.range_add, List.filter_append, List.length_append]
  have e : (List.range l.length).filter (firstB (l ++ r)) = (List.range l.length).filter (firstB l) := by
    apply List.filter_congr
    intro i hi
    have hi2 : i < l.length := List.mem_range.mp hi
    unfold firstB
    rw [List.take_append_of_le_length (Nat.le_of_lt hi2), List.getD_eq_getElem?_getD, List.getD_eq_getElem?_getD, List.getElem?_append_left hi2]
  rw [e]
  exact Nat.le_add_right _ _
theorem places_take (ss : List (Str × List Int)) (as : List Arm) (i : Nat) : (placesS ss (as.take i)).length ≤ (placesS ss as).length := by
  have e : standS ss as = standS ss (as.take i) ++ ((as.drop i).map fun a => [a.src, a.tgt]).flatten := by
    unfold standS
    rw [List.append_assoc, ← List.flatten_append, ← List.map_append, List.take_append_drop]
  unfold placesS
  rw [e]
  exact firsts_app _ _
theorem list_is {α : Type} {l : List α} {g : α → V} {ys : List V} (hl : ys.length = l.length) (h : ∀ (i : Nat) (y : V), ys[i]? = some y → ∃ s, l[i]? = some s ∧ y = g s) : ys = l.map g := by
  apply List.ext_getElem
  · rw [hl, List.length_map]
  · intro i h1 h2
    obtain ⟨s, e1, e2⟩ := h i _ (List.getElem?_eq_getElem h1)
    rw [e2, List.getElem_map]
    obtain ⟨q, e3⟩ := List.getElem?_eq_some_iff.mp e1
    rw [e3]
theorem fst_strs (ss : List (Str × List Int)) : (ss.map fun s => V.str s.1) = (ss.map Prod.fst).map V.str := by
  rw [List.map_map]
  rfl
theorem ahead_len (p : Nat → Bool) (i : Nat) : ((List.range i).filter p).length ≤ i := Nat.le_trans (List.length_filter_le _ _) (by rw [List.length_range]; exact Nat.le_refl _)
theorem strs_at {l : List Str} {i : Nat} {z : V} (e : (l.map V.str)[i]? = some z) : ∃ c, l[i]? = some c ∧ z = .str c := by
  rw [List.getElem?_map] at e
  cases h : l[i]? with
  | none =>
    rw [h] at e
    cases e
  | some c =>
    rw [h] at e
    exact ⟨c, rfl, (Option.some.inj e).symm⟩
section
variable {P : Program} {w : World} {K : PySem.W.Frag} {mg : Str → Option Value} {base : Heap} {f : Addr} {fd : FuncData}
def spPl (K : PySem.W.Frag) : Sp := fun vs H Q _ => ∃ (u v : V) (ss : List (Str × List Int)) (as : List Arm), vs = [u, v] ∧ Dp K H u (saysD ss) ∧ Dp K H v (armsD as) ∧ ss.length ≤ 3 ∧ as.length ≤ 5 ∧ ∀ p H', Same H H' → SqT K H' p ((placesS ss as).map V.str) → Q (.ref p) H'
abbrev nPl : List Str := ["sayings", "branches", "saying", "standing", "branch", "at", "place"]
theorem scPl : FnScope nPl ["sayings", "branches"] (defScope sPl) := ⟨rfl, rfl, rfl, by decide +kernel, rfl, by decide +kernel, by decide +kernel⟩
theorem ok_pl (F : FnP K "_places_of" sPl f fd) (T : Mo mg) : FnOk P w K mg base CX0 1 f fd ["sayings", "branches"] (spPl K) := by
  refine F.ok scPl (fun vs H Q E h => ?_) (fun cdv A outer s H vs Q E hr h => ?_)
  · obtain ⟨u, v, ss, as, rfl, _⟩ := h
    rfl
  · obtain ⟨u, v, ss, as, rfl, hu, hv, l3, l5, k⟩ := h
    refine ⟨_, PSs.nox <| pss_cons (ps_set (i := 3) scPl.nd rfl (.inr rfl) (pe_lc (own := [("saying", 2)]) (g := gName 2) (tt := tYes) rfl scPl.nd (pi_tup (pv 0)) (blkOk_by (N := nPl) (sc := defScope sPl) (by decide +kernel)) (fun _ _ _ _ _ => pg_name (i := 2) scPl.nd rfl (Or.inl rfl)) (fun _ _ _ _ _ => pts_nil)
          (fun _ _ _ _ _ => pe_ix (r := rIxT K) ix_tup (pv 2) pe_int (fun _ _ => rfl))))
      <| pss_cons (ps_for PassesOwn.never rfl (pi_tup (pv 1)) (pg_name (i := 4) scPl.nd rfl (.inl rfl))
          (pss_one (ps_expr (pe_bm PySem.F.plainAttrs_list PySem.F.slot_list_extend PySem.F.type_list_extend mt_extend (pv 3) (pa_cons (pe_lstR (pa_cons (pe_ix ix_tup (pv 4) pe_int (fun _ _ => rfl)) (pa_cons (pe_ix ix_tup (pv 4) pe_int (fun _ _ => rfl)) pa_nil))) pa_nil)))))
      <| pss_one (ps_ret (pe_callTy call_tuple_of (by rfl) T.tuple (by decide +kernel) (pa_cons (pe_lc (own := [("at", 5), ("place", 6)]) (g := gTup K 2 (gCons (gName 5) (gCons (gName 6) gNil))) rfl scPl.nd (pi_enum (by rfl) T.enum (pa_cons (pv 3) pa_nil)) (blkOk_by (N := nPl) (sc := defScope sPl) (by decide +kernel))
          (fun _ _ _ _ _ => pg_tup (by rfl) (pgs_cons (pg_name (i := 5) scPl.nd rfl (.inl rfl)) (pgs_cons (pg_name (i := 6) scPl.nd rfl (.inl rfl)) pgs_nil)))
          (fun _ _ _ _ _ => pts_one (pt_cmpR (r := rIn K true) op_notIn_seq (pv 6) (pe_slice (r := rSlR K) sl_listR (pv 3) po_none (po_some (pv 5))) (by rfl)))
          (fun _ _ _ _ _ => pv 6)) pa_nil))), ?_⟩
    obtain ⟨a, xs, rfl, hs, ha⟩ := rp_tup (.inl hu)
    obtain ⟨b, ys, rfl, hb, hbs⟩ := rp_tup (.inl hv)
    have lx := dp_len ha
    have ly := dp_len hbs
    rw [List.length_map] at lx ly
    refine ⟨_, rfl, a, rfl, ⟨_, hs⟩, lcR (walk_tup (xs := xs)) (n1 := by omega) (fun H' s' => Same.seqT s' hs) (fun i y _ => ∃ s, ss[i]? = some s ∧ y = .str s.1) (fun _ _ _ _ _ e => e) ?_ ?_⟩
    · rintro D acc i x Ha Hb K2 hi s nD hD ⟨rfl, ex⟩ kk
      obtain ⟨sy, es, hz⟩ := map_at ha ex
      obtain ⟨p, zs, rfl, hp, hzs⟩ := rp_tup (.inl hz)
      cases hzs with
      | cons z0 hz1 =>
        cases z0
        cases hz1 with
        | cons z1 hz2 =>
        cases hz2
        exact ⟨rfl, _, rfl, p, _, 0, _, rfl, rfl, Same.seqT s hp, rfl, kk _ _ (Same.refl _) ⟨sy, es, rfl⟩⟩
    · rintro D H1 zs nw hlen he
      have ez : zs = (ss.map Prod.fst).map V.str := by
        rw [← fst_strs]
        exact list_is (by rw [hlen, lx]) he
      subst ez
      obtain ⟨nD, hD, s1⟩ := nw
      refine ⟨_, rfl, b, rfl, ⟨_, Same.seqT s1 hb⟩, for_tup (Pv := fun i σ H' => ∃ x2 x4 x5 x6, σ = [some (.ref a), some (.ref b), x2, some (.ref D), x4, x5, x6] ∧ Same H H' ∧ H' D = some (.lst ((standS ss (as.take i)).map V.str))) ⟨_, _, _, _, rfl, s1, ?_⟩ (fun i σ H' _ ⟨_, _, _, _, _, s, _⟩ => Same.seqT s hb) ?_ ?_⟩
      · rw [hD]
        congr 3
        unfold standS
        simp
      · rintro i x σ H2 ex ⟨x2, x4, x5, x6, rfl, s2, hD2⟩
        obtain ⟨ar, ea, hz⟩ := map_at hbs ex
        obtain ⟨p, zs, rfl, hp, hzs⟩ := rp_tup (.inl hz)
        cases hzs with
        | cons z0 hz1 =>
          cases hz1 with
          | cons z1 hz2 =>
            cases z0
            cases z1
            cases hz2 with
            | cons z2 hz3 =>
            cases hz3 with
            | cons z3 hz4 =>
            cases hz4
            have hp2 := Same.seqT s2 hp
            have hi : i < as.length := (List.getElem?_eq_some_iff.mp ea).1
            have elen : (standS ss (as.take i)).length ≤ 13 := by
              rw [stand_len, List.length_take]
              omega
            refine ⟨_, rfl, .inl ⟨rfl, _, SqL.of hD2⟩, _, rfl, p, _, 0, _, rfl, rfl, hp2, rfl, _, rfl, p, _, 1, _, rfl, rfl, hp2, rfl, (show 2 ≤ 1000 by decide), fun l H3 n3 => ?_⟩
            have hD3 := n3.2.2 _ _ hD2
            refine ⟨D, l, _, _, rfl, rfl, hD3, n3.2.1, sz1000 (by rw [List.length_map]; simp; omega), ?_⟩
            refine ⟨_, _, _, _, rfl, fun c o e => ?_, ?_⟩
            · rw [upd_ne (ne_of_none e nD)]
              exact n3.2.2 _ _ (s2 _ _ e)
            · rw [upd_same]
              congr 2
              rw [List.take_add_one, ea]
              unfold standS
              simp
      · rintro σ H2 ⟨x2, x4, x5, x6, rfl, s2, hD2⟩
        rw [ly, List.take_length] at hD2
        have l16 : (standS ss as).length ≤ 13 := by
          rw [stand_len]
          omega
        have l1000 : ((standS ss as).map V.str).length ≤ 1000 := by
          rw [List.length_map]
          omega
        refine ⟨_, rfl, D, _, rfl, SqL.of hD2, fun D2 nD2 => lc_it walk_enum (fun i H' => Same H2 H' ∧ H' D2 = some (.lst ((((List.range i).filter (firstB (standS ss as))).map fun j => (standS ss as).getD j "").map V.str))) ⟨same_new nD2, upd_same⟩ (fun i H' _ ⟨s, _⟩ => s.seq (SqL.of hD2)) ?_ ?_⟩
        · rintro i x H3 H4 hi ⟨s3, h3⟩ ⟨T, y, z, rfl, nT, rfl, ey, ez⟩
          cases ey
          replace ez : ((standS ss as).map V.str)[i]? = some z := ez
          obtain ⟨c, ec, rfl⟩ := strs_at ez
          have hi2 : i < (standS ss as).length := (List.getElem?_eq_some_iff.mp ec).1
          have s4 : Same H3 (upd H3 T (.tup [.int (i : Nat), .str c])) := same_new nT
          have hD4 := s4 _ _ (s3 _ _ hD2)
          refine ⟨T, _, rfl, SqT.of upd_same, rfl, _, _, rfl, _, _, rfl, rfl, rfl, ?_⟩
          refine ⟨_, rfl, _, rfl, _, rfl, _, rfl, D, _, rfl, SqL.of hD4, fun p H5 n5 => ?_⟩
          rw [cut_take (by rw [List.length_map]; omega), ← List.map_take] at n5
          refine ⟨p, _, rfl, .inl (SqL.of n5.2.1), rfl, flat_strs _, _, rfl, ?_⟩
          have eg : (standS ss as).getD i "" = c := by
            rw [List.getD_eq_getElem?_getD, ec]
            rfl
          have eB : (if true = true then !inV (V.str c) (((standS ss as).take i).map V.str) else inV (V.str c) (((standS ss as).take i).map V.str)) = firstB (standS ss as) i := by
            rw [if_pos rfl, inV_strs]
            unfold firstB
            rw [eg]
          have h5 := n5.2.2 _ _ (s4 _ _ h3)
          have s25 := s3.trans (s4.trans n5.2.2)
          have hlen := ahead_len (firstB (standS ss as)) i
          cases hB : firstB (standS ss as) i with
          | true =>
            refine iteBT (eB.trans hB) ?_
            refine ⟨_, rfl, _, h5, small1000 ?_, fun q o e => ?_, ?_⟩
            · rw [List.length_map, List.length_map]
              omega
            · rw [upd_ne (ne_of_none e nD2)]
              exact s25 _ _ e
            · rw [upd_same, List.range_succ, List.filter_append, List.filter_cons, hB]
              simp only [if_true, List.filter_nil, List.map_append, List.map_cons, List.map_nil, eg]
          | false =>
            refine iteBF (eB.trans hB) ?_
            refine ⟨s25, ?_⟩
            rw [h5, List.range_succ, List.filter_append, List.filter_cons, hB]
            simp
        · rintro H3 ⟨s3, h3⟩
          rw [List.length_map] at h3
          refine ⟨D2, _, rfl, .inl ⟨SqL.of h3, fun l nl => ?_⟩⟩
          exact k l _ ((s2.trans s3).trans (same_new nl)) (SqT.of upd_same)
end
end Pg
set_option Elab.async false
set_option linter.all false
set_option maxRecDepth 100000
set_option maxHeartbeats 8000000
namespace Nu
open PySem PySem.Spec PyProof.Rows L2 TL
/-! whole numbers as texts -/
def numS (i : Int) : Str := Str.ofString (toString i)
theorem tl_neg (n : Nat) : tl (numS (Int.negSucc n)) = 45 :: numL (n + 1) := by
  unfold numS
  rw [tl_ofString]
  show ("-" ++ Nat.repr (n + 1)).toList.map Char.toNat = _
  rw [String.toList_append, List.map_append, Nat.toList_repr]
  rfl
theorem tl_pos (n : Nat) : tl (numS (Int.ofNat n)) = numL n := tl_num n
theorem num_signs (i : Int) : ∀ c ∈ tl (numS i), c = 45 ∨ (48 ≤ c ∧ c ≤ 57) := by
  intro c hc
  cases i with
  | ofNat n =>
    rw [tl_pos] at hc
    exact .inr (numL_digits n c hc)
  | negSucc n =>
    rw [tl_neg] at hc
    rcases List.mem_cons.mp hc with h | h
    · exact .inl h
    · exact .inr (numL_digits _ c h)
theorem num_free {s : Nat} (i : Int) (h : s < 45 ∨ 57 < s) : s ∉ tl (numS i) := fun hm => by
  have := num_signs i s hm
  omega
theorem num_ne (i : Int) : tl (numS i) ≠ [] := by
  cases i with
  | ofNat n =>
    rw [tl_pos]
    exact numL_ne n
  | negSucc n =>
    rw [tl_neg]
    exact fun h => by cases h
theorem num_len {i : Int} (h : -1000000 ≤ i ∧ i ≤ 1000000) : (numS i).length ≤ 8 := by
  rw [len_tl]
  cases i with
  | ofNat n =>
    rw [tl_pos]
    have h2 : Int.ofNat n = (n : Int) := rfl
    exact Nat.le_trans (numL_len (n := n) (k := 7) (by decide) (by omega)) (by decide)
  | negSucc n =>
    rw [tl_neg, List.length_cons]
    have h2 : n + 1 < 10 ^ 7 := by
      have := h.1
      omega
    have := numL_len (n := n + 1) (k := 7) (by decide) h2
    omega
theorem num_read {i : Int} (h : -1000000 ≤ i ∧ i ≤ 1000000) : intText? (numS i) = some i := by
  have hl := num_len h
  cases i with
  | ofNat n =>
    have e := PySem.intText_digits (x := numS (Int.ofNat n)) (by
      have := tl_pos n
      unfold TL.tl at this
      rw [this]
      exact numL_digits n) (num_ne _) (by omega)
    rw [e]
    have := tl_pos n
    unfold TL.tl at this
    rw [this, numL_val]
    rfl
  | negSucc n =>
    have e := PySem.intText_neg (x := numS (Int.negSucc n)) (tl_neg n) (numL_digits _) (numL_ne _) (by omega)
    rw [e, numL_val]
    rfl
theorem num_log {i : Int} (h : -1000000 ≤ i ∧ i ≤ 1000000) : i.natAbs.log2 < 1920 := by
  have h1 : i.natAbs < 2 ^ 20 := by
    have : (2 : Nat) ^ 20 = 1048576 := by decide
    omega
  by_cases h0 : i.natAbs = 0
  · rw [h0]
    decide
  · have := (Nat.log2_lt h0).mpr h1
    omega
end Nu
set_option Elab.async false
set_option linter.all false
set_option maxRecDepth 100000
set_option maxHeartbeats 8000000
namespace Pg
open PySem PySem.Spec PyProof.Rows L2 Gd Rl Te Nu
abbrev sCB : Stmt := top 27
abbrev sWd : Stmt := top 32
/-! ### _check_branches -/
theorem form_nums {m : Nat} {f : List Int} (h : formB m (fD f) = true) : f.length = m + 1 ∧ ∀ i ∈ f, -1000000 ≤ i ∧ i ≤ 1000000 := by
  have h2 : (decide ((f.map PyData.int).length = m + 1) && (f.map PyData.int).all numB) = true := h
  rw [Bool.and_eq_true, decide_eq_true_eq, List.length_map, List.all_map, List.all_eq_true] at h2
  refine ⟨h2.1, fun i hi => ?_⟩
  have h3 : (decide (-1000000 ≤ i) && decide (i ≤ 1000000)) = true := h2.2 i hi
  simpa using h3
theorem ok_ints (l : List Int) : okAll (l.map PyData.int) = true := by
  induction l with
  | nil => rfl
  | cons a l ih =>
    rw [List.map_cons, okAll, ih]
    rfl
theorem form_ok {m : Nat} (hm : m ≤ 900) {f : List Int} (h : formB m (fD f) = true) : okD (fD f) = true := by
  unfold fD
  rw [okD, ok_ints, decide_eq_true (by rw [List.length_map, (form_nums h).1]; omega)]
  rfl
theorem all_ok : ∀ {l : List PyData}, (∀ d ∈ l, okD d = true) → okAll l = true
  | [], _ => rfl
  | d :: l, h => by
    rw [okAll, h d (List.mem_cons_self ..), all_ok fun e he => h e (List.mem_cons_of_mem _ he)]
    rfl
theorem forms_ok {m : Nat} (hm : m ≤ 900) {fs : List (List Int)} (hl : fs.length ≤ 1000) (h : formsB m (.tuple (fs.map fD)) = true) : okD (.tuple (fs.map fD)) = true := by
  have h2 : (fs.map fD).all (formB m) = true := h
  rw [List.all_eq_true] at h2
  rw [okD, decide_eq_true (by rw [List.length_map]; exact hl), Bool.true_and]
  refine all_ok fun d hd => ?_
  obtain ⟨f, hf, rfl⟩ := List.mem_map.mp hd
  exact form_ok hm (h2 _ hd)
structure ArmOk (m : Nat) (a : Arm) : Prop where
  s : nameS a.src = true
  t : nameS a.tgt = true
  ts : formsB m (.tuple (a.tests.map fD)) = true
  t3 : a.tests.length ≤ 3
  cs : formsB m (.tuple (a.turns.map fD)) = true
  cm : a.turns.length = m
theorem arm_is {m : Nat} {a : Arm} : brB m (armD a) = true ↔ ArmOk m a := by
  have e : brB m (armD a) = (nameS a.src && (nameS a.tgt && ((formsB m (.tuple (a.tests.map fD)) && decide ((a.tests.map fD).length ≤ 3)) && (formsB m (.tuple (a.turns.map fD)) && decide ((a.turns.map fD).length = m))))) := rfl
  rw [e]
  simp only [Bool.and_eq_true, decide_eq_true_eq, List.length_map]
  exact ⟨fun ⟨a, b, ⟨c, d⟩, e, f⟩ => ⟨a, b, c, d, e, f⟩, fun h => ⟨h.s, h.t, ⟨h.ts, h.t3⟩, h.cs, h.cm⟩⟩
theorem ok_four {a b c d : PyData} (h1 : okD a = true) (h2 : okD b = true) (h3 : okD c = true) (h4 : okD d = true) : okD (.tuple [a, b, c, d]) = true := by
  simp only [okD, okAll, h1, h2, h3, h4]
  rfl
theorem arm_ok {m : Nat} (hm : m ≤ 900) {a : Arm} (h : ArmOk m a) : okD (armD a) = true := by
  have h1 := forms_ok hm (by have := h.t3; omega) h.ts
  have h2 := forms_ok hm (by have := h.cm; omega) h.cs
  exact ok_four (decide_eq_true (name_len h.s)) (decide_eq_true (name_len h.t)) h1 h2
structure OkA (m : Nat) (ss : List (Str × List Int)) (as : List Arm) : Prop where
  one : 1 ≤ as.length
  five : as.length ≤ 5
  arm : ∀ a ∈ as, ArmOk m a
  pl : (placesS ss as).length ≤ 3
theorem dp_take {K : PySem.W.Frag} {H : Hp} : ∀ (i : Nat) {vs : List V} {ds : List PyData}, DpAll K H vs ds → DpAll K H (vs.take i) (ds.take i)
  | 0, _, _, _ => .nil
  | i + 1, _, _, .nil => .nil
  | i + 1, _, _, .cons a b => .cons a (dp_take i b)
section
variable {P : Program} {w : World} {K : PySem.W.Frag} {mg : Str → Option Value} {base : Heap} {f : Addr} {fd : FuncData}
def spCB (K : PySem.W.Frag) : Sp := fun vs H Q _ => ∃ (v u : V) (m : Nat) (ss : List (Str × List Int)) (as : List Arm), vs = [v, .int m, u] ∧ m ≤ 900 ∧ Dp K H v (armsD as) ∧ Dp K H u (saysD ss) ∧ ss.length ≤ 3 ∧ OkA m ss as ∧ ∀ H', Same H H' → Q .non H'
theorem scCB : FnScope ["branches", "many", "sayings", "at", "branch"] ["branches", "many", "sayings"] (defScope sCB) := ⟨rfl, rfl, rfl, by decide +kernel, rfl, by decide +kernel, by decide +kernel⟩
theorem ok_cb {fI fN fF fS fB fP : Addr} {dI dN dF dS dB dP : FuncData} (F : FnP K "_check_branches" sCB f fd) (T : Mo mg) (J : Js K mg fI fN fF fS dI dN dF dS) (FB : FnP K "_is_branch" sBr fB dB) (gB : mg "_is_branch" = some (.ref fB)) (FP : FnP K "_places_of" sPl fP dP) (gP : mg "_places_of" = some (.ref fP)) : FnOk P w K mg base CX0 6 f fd ["branches", "many", "sayings"] (spCB K) := by
  have GB : FnOk P w K mg base CX0 5 fB dB ["value", "many"] (spJ2 K brB) := ok_br FB T J
  have GP : FnOk P w K mg base CX0 1 fP dP ["sayings", "branches"] (spPl K) := ok_pl FP T
  have bB : Binds K dB ["value", "many"] [] := FB.bindsN fun _ _ _ _ _ _ us hl => match us, hl with | [_, _], _ => rfl
  have bP : Binds K dP ["sayings", "branches"] [] := FP.bindsN fun _ _ _ _ _ _ us hl => match us, hl with | [_, _], _ => rfl
  obtain ⟨t1, c1⟩ := T.mbra
  obtain ⟨t2, c2⟩ := T.mpla
  refine F.ok scCB (fun vs H Q E h => ?_) (fun cdv A outer s H vs Q E hr h => ?_)
  · obtain ⟨v, u, m, ss, as, rfl, _⟩ := h
    rfl
  · obtain ⟨v, u, m, ss, as, rfl, hm, hv, hu, l3, ok, k⟩ := h
    have hr1 := hr.mono (show 1 ≤ 5 by decide)
    refine ⟨_, PSs.nox <| pss_cons (ps_if (PW.pt (pw_or (pt_not (pt_val (pe_callB (call_isD (T := "tuple")) (by rfl) T.isi boot_isinstance (pa_cons (pv 0) (pa_cons (pe_bltn (v := .ty "tuple") (by rfl) T.tuple (by decide +kernel) rfl) pa_nil)))))
        (pw_or1 (pt_not (pt_truth (pv 0) (by intro _; rfl)))))) (pss_one ps_never) pss_nil)
      <| pss_one (ps_for PassesOwn.never rfl (pi_enumT (by rfl) T.enum (pa_cons (pv 0) pa_nil)) (pg_tup (by rfl) (pgs_cons (pg_name (i := 3) scCB.nd rfl (.inl rfl)) (pgs_cons (pg_name (i := 4) scCB.nd rfl (.inl rfl)) pgs_nil)))
          (pss_cons (ps_if (PW.pt (pw_or (pt_cmpR op_ge (pv 3) (pe_glob (v := .int 5) (by rfl) c1 ⟨_, rfl⟩) (nomark _))
            (pw_or1 (pt_not (pt_val (pe_call GB hr (by rfl) gB FB.kp bB .nil pass0 (pa_cons (pv 4) (pa_cons (pv 1) pa_nil)))))))) (pss_one ps_never) pss_nil)
          <| pss_one (ps_if (pt_cmpR op_gt (pe_callB call_len (by rfl) T.len PySem.boot_len (pa_cons (pe_call GP hr1 (by rfl) gP FP.kp bP .nil pass0 (pa_cons (pv 2) (pa_cons (pe_slice (r := rSlTR K) sl_tupR (pv 0) po_none (po_some (pe_op op_add (pv 3) pe_int))) pa_nil))) pa_nil)) (pe_glob (v := .int 3) (by rfl) c2 ⟨_, rfl⟩) (nomark _)) (pss_one ps_never) pss_nil))), ?_⟩
    obtain ⟨a, xs, rfl, hs, ha⟩ := rp_tup (.inl hv)
    have lx := dp_len ha
    rw [List.length_map] at lx
    refine ⟨_, rfl, _, _, _, rfl, .inl hv, kit_tuple _, _, rfl, ?_⟩
    refine iteF ?_
    refine ⟨_, rfl, true, .inr (.inl ⟨_, hs, ?_⟩), ?_⟩
    · have h1 := ok.one
      cases xs with
      | nil =>
        rw [← lx] at h1
        exact absurd h1 (by decide)
      | cons n ns => rfl
    refine iteF ?_
    refine ⟨_, rfl, a, _, rfl, hs, for_it walk_enumT (fun i σ H' => ∃ x1 x2, σ = [some (.ref a), some (.int m), some u, x1, x2] ∧ Same H H') ⟨_, _, rfl, Same.refl H⟩ (fun i σ H' _ ⟨_, _, _, s⟩ => Same.seqT s hs) ?_ ?_⟩
    · rintro i x σ H1 H2 hi ⟨x1, x2, rfl, s1⟩ ⟨T, y, z, rfl, nT, rfl, ey, ez⟩
      cases ey
      obtain ⟨ar, ea, hz⟩ := map_at ha ez
      have har := ok.arm ar (List.mem_of_getElem? ea)
      have s2 : Same H (upd H1 T (.tup [.int (i : Nat), z])) := s1.trans (same_new nT)
      refine ⟨T, _, rfl, SqT.of upd_same, rfl, _, _, rfl, _, _, rfl, rfl, ?_⟩
      refine ⟨_, rfl, _, _, rfl, rfl, _, rfl, ?_⟩
      have h5 := ok.five
      refine iteDN (by omega) ?_
      refine ⟨_, rfl, _, rfl, z, armD ar, m, rfl, .inl (dp_same s2 _ hz), arm_ok hm har, fun H3 s3 => ⟨_, rfl, ?_⟩⟩
      refine iteBF (notT (arm_is.mpr har)) ?_
      have s13 := s2.trans s3
      refine ⟨_, rfl, _, rfl, _, rfl, _, _, rfl, rfl, _, rfl, a, _, rfl, Same.seqT s13 hs, fun p H4 s4 hp => ?_⟩
      rw [show ((i : Int) + 1) = ((i + 1 : Nat) : Int) from rfl, cut_take (by omega)] at hp
      have s14 := s13.trans s4
      have hA : Dp K H4 (.ref p) (armsD (as.take (i + 1))) := by
        unfold armsD
        rw [List.map_take]
        exact .tup hp (dp_take (i + 1) (dp_sameAll s14 _ ha))
      refine ⟨u, .ref p, ss, as.take (i + 1), rfl, dp_same s14 _ hu, hA, l3, by rw [List.length_take]; omega, fun q H5 s5 hq => ?_⟩
      refine ⟨_, _, rfl, .inr ⟨_, hq, rfl⟩, _, _, rfl, rfl, _, rfl, ?_⟩
      have hp3 := places_take ss as (i + 1)
      have h3 := ok.pl
      refine iteDN (by rw [List.length_map]; omega) ?_
      exact ⟨_, _, rfl, s14.trans s5⟩
    · rintro σ H' ⟨x1, x2, rfl, s1⟩
      exact k H' s1
/-! ### _words_of -/
def wordsS (f : List Int) : Str := Txt.join " " (f.map numS)
structure OkF (f : List Int) : Prop where
  four : f.length ≤ 4
  nums : ∀ i ∈ f, -1000000 ≤ i ∧ i ≤ 1000000
def spWd (K : PySem.W.Frag) : Sp := fun vs H Q _ => ∃ (v : V) (f : List Int), vs = [v] ∧ Dp K H v (fD f) ∧ OkF f ∧ ∀ H', Same H H' → Q (.str (wordsS f)) H'
theorem scWd : FnScope ["form", "number"] ["form"] (defScope sWd) := ⟨rfl, rfl, rfl, by decide +kernel, rfl, by decide +kernel, by decide +kernel⟩
theorem sum_le {l : List Nat} {b : Nat} (h : ∀ x ∈ l, x ≤ b) : l.sum ≤ l.length * b := by
  induction l with
  | nil => simp
  | cons a l ih =>
    rw [List.sum_cons, List.length_cons, Nat.succ_mul]
    have h1 := h a (List.mem_cons_self ..)
    have h2 := ih fun x hx => h x (List.mem_cons_of_mem _ hx)
    omega
theorem words_sum {f : List Int} (ok : OkF f) : ((f.map numS).map (·.length)).sum ≤ 32 := by
  have h := sum_le (l := (f.map numS).map (·.length)) (b := 8) (fun x hx => by
    obtain ⟨y, hy, rfl⟩ := List.mem_map.mp hx
    obtain ⟨i, hi, rfl⟩ := List.mem_map.mp hy
    exact num_len (ok.nums i hi))
  rw [List.length_map, List.length_map] at h
  have := ok.four
  omega
theorem ok_wd (F : FnP K "_words_of" sWd f fd) (T : Mo mg) : FnOk P w K mg base CX0 1 f fd ["form"] (spWd K) := by
  refine F.ok scWd (fun vs H Q E h => ?_) (fun cdv A outer s H vs Q E hr h => ?_)
  · obtain ⟨v, d, rfl, _⟩ := h
    rfl
  · obtain ⟨v, fo, rfl, hd, ok, k⟩ := h
    refine ⟨_, PSs.nox <| pss_one (ps_ret (pe_join pe_str (pe_lc (own := [("number", 1)]) (g := gName 1) (tt := tYes) rfl scWd.nd (pi_tup (pv 0)) (blkOk_by (N := ["form", "number"]) (sc := defScope sWd) (by decide +kernel)) (fun _ _ _ _ _ => pg_name (i := 1) scWd.nd rfl (Or.inl rfl)) (fun _ _ _ _ _ => pts_nil)
          (fun _ _ _ _ _ => pe_callTy call_str_int (by rfl) T.str (by decide +kernel) (pa_cons (pv 1) pa_nil))))), ?_⟩
    obtain ⟨a, xs, rfl, hs, ha⟩ := rp_tup (.inl hd)
    have lx := dp_len ha
    rw [List.length_map] at lx
    have h4 := ok.four
    refine ⟨⟨_, rfl⟩, _, rfl, a, rfl, ⟨_, hs⟩, lcR (walk_tup (xs := xs)) (n1 := by omega) (fun H' s' => Same.seqT s' hs) (fun i y _ => ∃ s, fo[i]? = some s ∧ y = .str (numS s)) (fun _ _ _ _ _ e => e) ?_ ?_⟩
    · rintro D acc i x Ha Hb K2 hi s nD hD ⟨rfl, ex⟩ kk
      obtain ⟨n, en, hz⟩ := map_at ha ex
      cases hz
      have hn := ok.nums n (List.mem_of_getElem? en)
      exact ⟨rfl, _, rfl, n, rfl, num_log hn, kk _ _ (Same.refl _) ⟨n, en, rfl⟩⟩
    · rintro D H1 zs nw hlen he
      have ez : zs = (fo.map numS).map V.str := by
        rw [List.map_map]
        exact list_is (by rw [hlen, lx]) he
      subst ez
      refine ⟨_, D, fo.map numS, rfl, rfl, .inl (SqL.of nw.2.1), ?_, k H1 nw.2.2⟩
      have := words_sum ok
      have e1 : (" " : Str).length = 1 := by decide +kernel
      rw [e1, List.length_map]
      omega
end
end Pg
set_option Elab.async false
set_option linter.all false
set_option maxRecDepth 100000
set_option maxHeartbeats 8000000
namespace Pg
open PySem PySem.Spec PyProof.Rows L2 Gd Rl Te Nu TL
abbrev sTx : Stmt := top 31
/-! ### the text -/
def lineV (ns : List Str) : Str := Txt.join " " ("vars" :: ns)
def lineS (s : Str × List Int) : Str := Str.empty ++ "say " ++ s.1 ++ " " ++ wordsS s.2
def lineB (a : Arm) : Str := Str.empty ++ "branch " ++ a.src ++ " " ++ a.tgt
def lineT (t : List Int) : Str := Str.empty ++ "test " ++ wordsS t
def lineE (a : Arm) : Str := "then " ++ Txt.join "; " (a.turns.map wordsS)
def armL (a : Arm) : List Str := lineB a :: (a.tests.map lineT ++ [lineE a])
def linesS (ns : List Str) (ss : List (Str × List Int)) (as : List Arm) : List Str := lineV ns :: (ss.map lineS ++ (as.map armL).flatten)
def textS (ns : List Str) (ss : List (Str × List Int)) (as : List Arm) : Str := Txt.join "\n" (linesS ns ss as)
/-! ### how long -/
theorem len_app (x y : Str) : (x ++ y).length = x.length + y.length := by
  rw [len_tl, tl_append, List.length_append, ← len_tl, ← len_tl]
theorem joinS_len (y : Str) : ∀ ps : List Str, (Str.join y ps).length ≤ (ps.map (·.length)).sum + ps.length * y.length
  | [] => Nat.zero_le _
  | [p] => by
    show p.length ≤ _
    simp
  | p :: q :: r => by
    have ih := joinS_len y (q :: r)
    have e : Str.join y (p :: q :: r) = p ++ y ++ Str.join y (q :: r) := rfl
    rw [e, len_app, len_app, List.map_cons, List.sum_cons, List.length_cons, Nat.succ_mul]
    omega
theorem join_len (y : Str) (ps : List Str) : (Txt.join y ps).length ≤ (ps.map (·.length)).sum + ps.length * y.length := by
  rw [join_eq]
  exact joinS_len y ps
theorem words_len {f : List Int} (ok : OkF f) : (wordsS f).length ≤ 36 := by
  have h := join_len " " (f.map numS)
  have h1 := words_sum ok
  have h2 := ok.four
  have e1 : (" " : Str).length = 1 := by decide +kernel
  rw [e1, List.length_map] at h
  unfold wordsS
  omega
theorem okF_of {m : Nat} (hm : m ≤ 3) {f : List Int} (h : formB m (fD f) = true) : OkF f := ⟨by rw [(form_nums h).1]; omega, (form_nums h).2⟩
theorem name_len8 {z : Str} (h : nameS z = true) : z.length ≤ 8 := by
  have lz : z.length = z.cps.toList.length := by
    rw [Array.length_toList]
    rfl
  unfold nameS at h
  rw [lz]
  cases e : z.cps.toList with
  | nil => exact Nat.zero_le _
  | cons c r =>
    rw [e] at h
    simp only [Bool.and_eq_true, decide_eq_true_eq] at h
    exact h.1
theorem say_parts {m : Nat} {s : Str × List Int} (h : sayB m (sayD s) = true) : nameS s.1 = true ∧ formB m (fD s.2) = true := by
  have h1 : (nameS s.1 && formB m (fD s.2)) = true := h
  simpa using h1
theorem forms_each {m : Nat} {fs : List (List Int)} (h : formsB m (.tuple (fs.map fD)) = true) : ∀ f ∈ fs, formB m (fD f) = true := by
  have h2 : (fs.map fD).all (formB m) = true := h
  rw [List.all_eq_true] at h2
  exact fun f hf => h2 _ (List.mem_map_of_mem hf)
theorem size1000 {n : Nat} (h : n ≤ 1000) : n ≤ 16777216 := by omega
theorem sum_map_le {α : Type} {l : List α} {g : α → Str} {b : Nat} (h : ∀ x ∈ l, (g x).length ≤ b) : ((l.map g).map (·.length)).sum ≤ l.length * b := by
  have q := sum_le (l := (l.map g).map (·.length)) (b := b) (fun x hx => by
    obtain ⟨y, hy, rfl⟩ := List.mem_map.mp hx
    obtain ⟨i, hi, rfl⟩ := List.mem_map.mp hy
    exact h i hi)
  rw [List.length_map, List.length_map] at q
  exact q
theorem lineV_sum {ns : List Str} (ok : OkN ns) : ((("vars" : Str) :: ns).map (·.length)).sum ≤ 28 := by
  have h := sum_map_le (l := ns) (g := id) (b := 8) fun z hz => name_len8 (ok.nm z hz)
  rw [List.map_id] at h
  rw [List.map_cons, List.sum_cons, show ("vars" : Str).length = 4 by decide +kernel]
  have := ok.three
  omega
theorem lineV_len {ns : List Str} (ok : OkN ns) : (lineV ns).length ≤ 32 := by
  have h := join_len " " ("vars" :: ns)
  have h1 := lineV_sum ok
  have h2 := ok.three
  rw [show (" " : Str).length = 1 by decide +kernel, List.length_cons] at h
  unfold lineV
  omega
theorem e0 : Str.empty.length = 0 := by decide +kernel
theorem lineS_len {m : Nat} (hm : m ≤ 3) {s : Str × List Int} (h : sayB m (sayD s) = true) : (lineS s).length ≤ 50 := by
  obtain ⟨h1, h2⟩ := say_parts h
  unfold lineS
  rw [len_app, len_app, len_app, len_app, e0, show ("say " : Str).length = 4 by decide +kernel, show (" " : Str).length = 1 by decide +kernel]
  have := name_len8 h1
  have := words_len (okF_of hm h2)
  omega
theorem lineB_len {m : Nat} {a : Arm} (h : ArmOk m a) : (lineB a).length ≤ 50 := by
  unfold lineB
  rw [len_app, len_app, len_app, len_app, e0, show ("branch " : Str).length = 7 by decide +kernel, show (" " : Str).length = 1 by decide +kernel]
  have := name_len8 h.s
  have := name_len8 h.t
  omega
theorem lineT_len {t : List Int} (h : OkF t) : (lineT t).length ≤ 50 := by
  unfold lineT
  rw [len_app, len_app, e0, show ("test " : Str).length = 5 by decide +kernel]
  have := words_len h
  omega
theorem turns_sum {m : Nat} (hm : m ≤ 3) {a : Arm} (h : ArmOk m a) : ((a.turns.map wordsS).map (·.length)).sum ≤ 108 := by
  have q := sum_map_le (l := a.turns) (g := wordsS) (b := 36) fun f hf => words_len (okF_of hm (forms_each h.cs f hf))
  have := h.cm
  omega
theorem turns_len {m : Nat} (hm : m ≤ 3) {a : Arm} (h : ArmOk m a) : (Txt.join "; " (a.turns.map wordsS)).length ≤ 114 := by
  have q := join_len "; " (a.turns.map wordsS)
  have h1 := turns_sum hm h
  have h2 := h.cm
  rw [show ("; " : Str).length = 2 by decide +kernel, List.length_map] at q
  omega
theorem lineE_len {m : Nat} (hm : m ≤ 3) {a : Arm} (h : ArmOk m a) : (lineE a).length ≤ 119 := by
  unfold lineE
  rw [len_app, show ("then " : Str).length = 5 by decide +kernel]
  have := turns_len hm h
  omega
theorem armL_len {m : Nat} {a : Arm} (h : ArmOk m a) : (armL a).length ≤ 5 := by
  unfold armL
  rw [List.length_cons, List.length_append, List.length_map]
  have := h.t3
  show a.tests.length + 1 + 1 ≤ 5
  omega
theorem flat_len {α β : Type} {l : List α} {g : α → List β} {b : Nat} (h : ∀ x ∈ l, (g x).length ≤ b) : ((l.map g).flatten).length ≤ l.length * b := by
  rw [List.length_flatten]
  have q := sum_le (l := (l.map g).map List.length) (b := b) (fun x hx => by
    obtain ⟨y, hy, rfl⟩ := List.mem_map.mp hx
    obtain ⟨i, hi, rfl⟩ := List.mem_map.mp hy
    exact h i hi)
  rw [List.length_map, List.length_map] at q
  exact q
structure OkT (m : Nat) (ns : List Str) (ss : List (Str × List Int)) (as : List Arm) : Prop where
  m3 : m ≤ 3
  n : OkN ns
  s : OkS m ss
  a5 : as.length ≤ 5
  arm : ∀ a ∈ as, ArmOk m a
theorem lines_len {m : Nat} {ns : List Str} {ss : List (Str × List Int)} {as : List Arm} (ok : OkT m ns ss as) : (linesS ns ss as).length ≤ 29 := by
  unfold linesS
  rw [List.length_cons, List.length_append, List.length_map]
  have h := flat_len (l := as) (g := armL) (b := 5) fun a ha => armL_len (ok.arm a ha)
  have := ok.a5
  have := ok.s.three
  omega
theorem lines_each {m : Nat} {ns : List Str} {ss : List (Str × List Int)} {as : List Arm} (ok : OkT m ns ss as) : ∀ z ∈ linesS ns ss as, z.length ≤ 119 := by
  intro z hz
  unfold linesS at hz
  rcases List.mem_cons.mp hz with rfl | hz
  · exact Nat.le_trans (lineV_len ok.n) (by decide)
  rcases List.mem_append.mp hz with hz | hz
  · obtain ⟨s, hs, rfl⟩ := List.mem_map.mp hz
    exact Nat.le_trans (lineS_len ok.m3 (ok.s.sy s hs)) (by decide)
  · obtain ⟨l, hl, hz⟩ := List.mem_flatten.mp hz
    obtain ⟨a, ha, rfl⟩ := List.mem_map.mp hl
    have hA := ok.arm a ha
    unfold armL at hz
    rcases List.mem_cons.mp hz with rfl | hz
    · exact Nat.le_trans (lineB_len hA) (by decide)
    rcases List.mem_append.mp hz with hz | hz
    · obtain ⟨t, ht, rfl⟩ := List.mem_map.mp hz
      exact Nat.le_trans (lineT_len (okF_of ok.m3 (forms_each hA.ts t ht))) (by decide)
    · rw [List.mem_singleton.mp hz]
      exact lineE_len ok.m3 hA
theorem lines_sum {m : Nat} {ns : List Str} {ss : List (Str × List Int)} {as : List Arm} (ok : OkT m ns ss as) : ((linesS ns ss as).map (·.length)).sum ≤ 3451 := by
  have h := sum_map_le (l := linesS ns ss as) (g := id) (b := 119) (lines_each ok)
  rw [List.map_id] at h
  have := lines_len ok
  omega
theorem text_len {m : Nat} {ns : List Str} {ss : List (Str × List Int)} {as : List Arm} (ok : OkT m ns ss as) : (textS ns ss as).length ≤ 3480 := by
  have h := join_len "\n" (linesS ns ss as)
  have h1 := lines_sum ok
  have h2 := lines_len ok
  rw [show ("\n" : Str).length = 1 by decide +kernel] at h
  unfold textS
  omega
end Pg
set_option Elab.async false
set_option linter.all false
set_option maxRecDepth 100000
set_option maxHeartbeats 8000000
namespace Pg
open PySem PySem.Spec PyProof.Rows L2 Gd Rl Te Nu TL
theorem sz9 {n : Nat} (h : n ≤ 1000) : n ≤ sizeLine := sz1000 h
section
variable {P : Program} {w : World} {K : PySem.W.Frag} {mg : Str → Option Value} {base : Heap} {f : Addr} {fd : FuncData}
def spTx (K : PySem.W.Frag) : Sp := fun vs H Q _ => ∃ (u v z : V) (m : Nat) (ns : List Str) (ss : List (Str × List Int)) (as : List Arm), vs = [u, v, z] ∧ Dp K H u (namesD ns) ∧ Dp K H v (saysD ss) ∧ Dp K H z (armsD as) ∧ OkT m ns ss as ∧ ∀ H', Same H H' → Q (.str (textS ns ss as)) H'
abbrev nTx : List Str := ["names", "sayings", "branches", "lines", "place", "form", "source", "target", "tests", "changes", "test", "change"]
theorem scTx : FnScope nTx ["names", "sayings", "branches"] (defScope sTx) := ⟨rfl, rfl, rfl, by decide +kernel, rfl, by decide +kernel, by decide +kernel⟩
theorem put_str {L : List Str} {y : Str} : (L.map V.str) ++ [V.str y] = (L ++ [y]).map V.str := by
  rw [List.map_append]
  rfl
theorem none_of_same {H H1 : Hp} {l : Addr} (s : Same H H1) (n : H1 l = none) : H l = none := by
  cases e : H l with
  | none => rfl
  | some o =>
    have := s _ _ e
    rw [n] at this
    cases this
/-- the lines so far at l, all else as it stood at H -/
structure Grow (H : Hp) (l : Addr) (L : List Str) (H' : Hp) : Prop where
  n : H l = none
  s : Same H H'
  e : H' l = some (.lst (L.map V.str))
theorem Grow.keep {H H1 H2 : Hp} {l : Addr} {L : List Str} (g : Grow H l L H1) (s : Same H1 H2) : Grow H l L H2 := ⟨g.n, g.s.trans s, s _ _ g.e⟩
theorem Grow.put {H H1 : Hp} {l : Addr} {L : List Str} (g : Grow H l L H1) (y : Str) : Grow H l (L ++ [y]) (upd H1 l (.lst ((L.map V.str) ++ [V.str y]))) :=
  ⟨g.n, fun b o e => by
    rw [upd_ne (ne_of_none e g.n)]
    exact g.s _ _ e, by rw [upd_same, put_str]⟩
theorem ok_tx {fW : Addr} {dW : FuncData} (F : FnP K "_text_of" sTx f fd) (T : Mo mg) (FW : FnP K "_words_of" sWd fW dW) (gW : mg "_words_of" = some (.ref fW)) : FnOk P w K mg base CX0 2 f fd ["names", "sayings", "branches"] (spTx K) := by
  have GW : FnOk P w K mg base CX0 1 fW dW ["form"] (spWd K) := ok_wd FW T
  have bW : Binds K dW ["form"] [] := FW.bindsN fun _ _ _ _ _ _ us hl => match us, hl with | [_], _ => rfl
  refine F.ok scTx (fun vs H Q E h => ?_) (fun cdv A outer s H vs Q E hr h => ?_)
  · obtain ⟨u, v, z, m, ns, ss, as, rfl, _⟩ := h
    rfl
  · obtain ⟨u, v, z, m, ns, ss, as, rfl, hu, hv, hz, ok, k⟩ := h
    refine ⟨_, PSs.nox <| pss_cons (ps_set (i := 3) scTx.nd rfl (.inl rfl) (pe_lstR (pa_cons (pe_join pe_str (pe_lstR (pa_cons pe_str (StX.pa_star (pv 0) pa_nil)))) pa_nil)))
      <| pss_cons (ps_for PassesOwn.never rfl (pi_tup (pv 1)) (pg_tup (by rfl) (pgs_cons (pg_name (i := 4) scTx.nd rfl (.inl rfl)) (pgs_cons (pg_name (i := 5) scTx.nd rfl (.inl rfl)) pgs_nil)))
          (pss_one (ps_expr (pe_bm PySem.F.plainAttrs_list PySem.F.slot_list_append PySem.F.type_list_append mt_append (pv 3) (pa_cons (pe_joined (.cons pe_str <| .cons (pe_fmt (pv 4)) <| .cons pe_str <| .cons (pe_fmt (pe_call GW hr (by rfl) gW FW.kp bW .nil pass0 (pa_cons (pv 5) pa_nil))) .nil)) pa_nil)))))
      <| pss_cons (ps_for PassesOwn.never rfl (pi_tup (pv 2)) (pg_tup (by rfl) (pgs_cons (pg_name (i := 6) scTx.nd rfl (.inl rfl)) (pgs_cons (pg_name (i := 7) scTx.nd rfl (.inl rfl)) (pgs_cons (pg_name (i := 8) scTx.nd rfl (.inl rfl)) (pgs_cons (pg_name (i := 9) scTx.nd rfl (.inl rfl)) pgs_nil)))))
          (pss_cons (ps_expr (pe_bm PySem.F.plainAttrs_list PySem.F.slot_list_append PySem.F.type_list_append mt_append (pv 3) (pa_cons (pe_joined (.cons pe_str <| .cons (pe_fmt (pv 6)) <| .cons pe_str <| .cons (pe_fmt (pv 7)) .nil)) pa_nil)))
          <| pss_cons (ps_for PassesOwn.never rfl (pi_tup (pv 8)) (pg_name (i := 10) scTx.nd rfl (.inl rfl))
              (pss_one (ps_expr (pe_bm PySem.F.plainAttrs_list PySem.F.slot_list_append PySem.F.type_list_append mt_append (pv 3) (pa_cons (pe_joined (.cons pe_str <| .cons (pe_fmt (pe_call GW hr (by rfl) gW FW.kp bW .nil pass0 (pa_cons (pv 10) pa_nil))) .nil)) pa_nil)))))
          <| pss_one (ps_expr (pe_bm PySem.F.plainAttrs_list PySem.F.slot_list_append PySem.F.type_list_append mt_append (pv 3) (pa_cons (pe_op op_add_str pe_str (pe_join pe_str (pe_lc (own := [("change", 11)]) (g := gName 11) (tt := tYes) rfl scTx.nd (pi_tup (pv 9)) (blkOk_by (N := nTx) (sc := defScope sTx) (by decide +kernel)) (fun _ _ _ _ _ => pg_name (i := 11) scTx.nd rfl (Or.inl rfl)) (fun _ _ _ _ _ => pts_nil)
              (fun _ _ _ _ _ => pe_call GW hr (by rfl) gW FW.kp bW .nil pass0 (pa_cons (pv 11) pa_nil))))) pa_nil)))))
      <| pss_one (ps_ret (pe_join pe_str (pv 3))), ?_⟩
    obtain ⟨a, xs, rfl, hs, ha⟩ := rp_tup (.inl hu)
    have ex := dp_strs ha
    subst ex
    obtain ⟨b, ys, rfl, hb, hbs⟩ := rp_tup (.inl hv)
    obtain ⟨c, zs, rfl, hc, hcs⟩ := rp_tup (.inl hz)
    have ly := dp_len hbs
    have lz := dp_len hcs
    rw [List.length_map] at ly lz
    have n3 := ok.n.three
    have s3 := ok.s.three
    have a5 := ok.a5
    refine ⟨⟨_, rfl⟩, _, rfl, a, _, rfl, .inl hs, ?_⟩
    have hl1 : (V.str "vars" :: (ns.map V.str ++ [])).length ≤ 1000 := by
      rw [List.append_nil, List.length_cons, List.length_map]
      omega
    refine ⟨hl1, fun l1 H1 n1 => ?_⟩
    refine ⟨_, l1, "vars" :: ns, rfl, rfl, .inl (SqL.of ?_), ?_, (show 1 ≤ 1000 by decide), fun l H2 n2 => ?_⟩
    · rw [n1.2.1]
      simp
    · have := lineV_sum ok.n
      rw [show (" " : Str).length = 1 by decide +kernel, List.length_cons]
      omega
    have g2 : Grow H l [lineV ns] H2 := ⟨none_of_same n1.2.2 n2.1, n1.2.2.trans n2.2.2, n2.2.1⟩
    refine ⟨_, rfl, b, rfl, ⟨_, Same.seqT g2.s hb⟩, for_tup (Pv := fun i σ H' => ∃ x4 x5 x6 x7 x8 x9 x10 x11, σ = [some (.ref a), some (.ref b), some (.ref c), some (.ref l), x4, x5, x6, x7, x8, x9, x10, x11] ∧ Grow H l (lineV ns :: (ss.take i).map lineS) H') ⟨_, _, _, _, _, _, _, _, rfl, g2⟩ (fun i σ H' _ ⟨_, _, _, _, _, _, _, _, _, g⟩ => Same.seqT g.s hb) ?_ ?_⟩
    · rintro i x σ H3 ex ⟨x4, x5, x6, x7, x8, x9, x10, x11, rfl, g3⟩
      obtain ⟨sy, es, hx⟩ := map_at hbs ex
      have hsy := ok.s.sy sy (List.mem_of_getElem? es)
      obtain ⟨p, ws, rfl, hp, hws⟩ := rp_tup (.inl hx)
      cases hws with
      | @cons w0 _ _ _ z0 hw1 =>
      cases hw1 with
      | @cons w1 _ _ _ z1 hw2 =>
      cases hw2
      cases z0
      obtain ⟨k1, k2⟩ := say_parts hsy
      have hlen := lineS_len ok.m3 hsy
      have l8 := name_len8 k1
      have lw := words_len (okF_of ok.m3 k2)
      unfold lineS at hlen
      have p1 : (Str.empty ++ "say " : Str).length ≤ sizeLine := by decide +kernel
      have p2 : (Str.empty ++ "say " ++ sy.1 : Str).length ≤ sizeLine := sz9 (by rw [len_app, len_app, e0, show ("say " : Str).length = 4 by decide +kernel]; omega)
      have p3 : (Str.empty ++ "say " ++ sy.1 ++ " " : Str).length ≤ sizeLine := sz9 (by rw [len_app, len_app, len_app, e0, show ("say " : Str).length = 4 by decide +kernel, show (" " : Str).length = 1 by decide +kernel]; omega)
      refine ⟨p, _, rfl, Same.seqT g3.s hp, rfl, _, _, rfl, _, _, rfl, rfl, ?_⟩
      refine ⟨_, rfl, .inl ⟨rfl, _, SqL.of g3.e⟩, _, rfl, p1, _, rfl, .inl ⟨_, rfl, sz9 (by omega), _, rfl, p2, _, rfl, p3, _, rfl, w1, sy.2, rfl, dp_same g3.s _ z1, okF_of ok.m3 k2, fun H4 s4 => .inl ⟨_, rfl, sz9 (by omega), _, rfl, sz9 (by omega), ?_⟩⟩⟩
      have g4 := g3.keep s4
      refine ⟨l, _, _, rfl, rfl, g4.e, small1000 (by rw [List.length_map, List.length_cons, List.length_map, List.length_take]; omega), ?_⟩
      refine ⟨_, _, _, _, _, _, _, _, rfl, ?_⟩
      have g5 := g4.put (lineS sy)
      have e5 : lineV ns :: (ss.take i).map lineS ++ [lineS sy] = lineV ns :: (ss.take (i + 1)).map lineS := by
        rw [List.take_add_one, es, List.cons_append]
        simp
      rw [e5] at g5
      exact g5
    · rintro σ H3 ⟨x4, x5, x6, x7, x8, x9, x10, x11, rfl, g3⟩
      rw [ly, List.take_length] at g3
      refine ⟨_, rfl, c, rfl, ⟨_, Same.seqT g3.s hc⟩, for_tup (Pv := fun i σ H' => ∃ x4 x5 x6 x7 x8 x9 x10 x11, σ = [some (.ref a), some (.ref b), some (.ref c), some (.ref l), x4, x5, x6, x7, x8, x9, x10, x11] ∧ Grow H l (linesS ns ss (as.take i)) H') ⟨_, _, _, _, _, _, _, _, rfl, ?_⟩ (fun i σ H' _ ⟨_, _, _, _, _, _, _, _, _, g⟩ => Same.seqT g.s hc) ?_ ?_⟩
      · have e6 : linesS ns ss (as.take 0) = lineV ns :: ss.map lineS := by
          unfold linesS
          simp
        rw [e6]
        exact g3
      · rintro i x σ H4 ex ⟨x4, x5, x6, x7, x8, x9, x10, x11, rfl, g4⟩
        obtain ⟨ar, ea, hx⟩ := map_at hcs ex
        have har := ok.arm ar (List.mem_of_getElem? ea)
        obtain ⟨p, ws, rfl, hp, hws⟩ := rp_tup (.inl hx)
        cases hws with
        | @cons w0 _ _ _ z0 hw1 =>
        cases hw1 with
        | @cons w1 _ _ _ z1 hw2 =>
        cases hw2 with
        | @cons w2 _ _ _ z2 hw3 =>
        cases hw3 with
        | @cons w3 _ _ _ z3 hw4 =>
        cases hw4
        cases z0
        cases z1
        have hlen := lineB_len har
        have l8 := name_len8 har.s
        have l9 := name_len8 har.t
        unfold lineB at hlen
        have okI : OkT m ns ss (as.take i) := ⟨ok.m3, ok.n, ok.s, by rw [List.length_take]; omega, fun a ha => ok.arm a (List.mem_of_mem_take ha)⟩
        have lI := lines_len okI
        have p1 : (Str.empty ++ "branch " : Str).length ≤ sizeLine := by decide +kernel
        have p2 : (Str.empty ++ "branch " ++ ar.src : Str).length ≤ sizeLine := sz9 (by rw [len_app, len_app, e0, show ("branch " : Str).length = 7 by decide +kernel]; omega)
        have p3 : (Str.empty ++ "branch " ++ ar.src ++ " " : Str).length ≤ sizeLine := sz9 (by rw [len_app, len_app, len_app, e0, show ("branch " : Str).length = 7 by decide +kernel, show (" " : Str).length = 1 by decide +kernel]; omega)
        refine ⟨p, _, rfl, Same.seqT g4.s hp, rfl, _, _, rfl, _, _, rfl, _, _, rfl, _, _, rfl, rfl, ?_⟩
        refine ⟨_, rfl, .inl ⟨rfl, _, SqL.of g4.e⟩, _, rfl, p1, _, rfl, .inl ⟨_, rfl, sz9 (by omega), _, rfl, p2, _, rfl, p3, _, rfl, .inl ⟨_, rfl, sz9 (by omega), _, rfl, sz9 (by omega), ?_⟩⟩⟩
        refine ⟨l, _, _, rfl, rfl, g4.e, small1000 (by rw [List.length_map]; omega), ?_⟩
        have g5 := g4.put (lineB ar)
        obtain ⟨d, ts, rfl, hd, hds⟩ := rp_tup (.inl z2)
        obtain ⟨q, cs, rfl, hq, hqs⟩ := rp_tup (.inl z3)
        have lt := dp_len hds
        have lc := dp_len hqs
        rw [List.length_map] at lt lc
        have t3 := har.t3
        have cm := har.cm
        have m3 := ok.m3
        refine ⟨_, rfl, d, rfl, ⟨_, Same.seqT g5.s hd⟩, for_tup (Pv := fun j σ H' => ∃ x10 x11, σ = [some (.ref a), some (.ref b), some (.ref c), some (.ref l), x4, x5, some (.str ar.src), some (.str ar.tgt), some (.ref d), some (.ref q), x10, x11] ∧ Grow H l (linesS ns ss (as.take i) ++ lineB ar :: (ar.tests.take j).map lineT) H') ⟨_, _, rfl, g5⟩ (fun j σ H' _ ⟨_, _, _, g⟩ => Same.seqT g.s hd) ?_ ?_⟩
        · rintro j x σ H6 ex ⟨x10, x11, rfl, g6⟩
          obtain ⟨te, et, hx⟩ := map_at hds ex
          have hte := okF_of ok.m3 (forms_each har.ts te (List.mem_of_getElem? et))
          have hlt := lineT_len hte
          have lw := words_len hte
          unfold lineT at hlt
          have p4 : (Str.empty ++ "test " : Str).length ≤ sizeLine := by decide +kernel
          refine ⟨_, rfl, .inl ⟨rfl, _, SqL.of g6.e⟩, _, rfl, p4, _, rfl, x, te, rfl, dp_same g6.s _ hx, hte, fun H7 s7 => .inl ⟨_, rfl, sz9 (by omega), _, rfl, sz9 (by omega), ?_⟩⟩
          have g7 := g6.keep s7
          refine ⟨l, _, _, rfl, rfl, g7.e, small1000 (by rw [List.length_map, List.length_append, List.length_cons, List.length_map, List.length_take]; omega), ?_⟩
          refine ⟨_, _, rfl, ?_⟩
          have g8 := g7.put (lineT te)
          have e8 : linesS ns ss (as.take i) ++ lineB ar :: (ar.tests.take j).map lineT ++ [lineT te] = linesS ns ss (as.take i) ++ lineB ar :: (ar.tests.take (j + 1)).map lineT := by
            rw [List.take_add_one, et, List.append_assoc, List.cons_append]
            simp
          rw [e8] at g8
          exact g8
        · rintro σ H6 ⟨x10, x11, rfl, g6⟩
          rw [lt, List.take_length] at g6
          refine ⟨_, rfl, .inl ⟨rfl, _, SqL.of g6.e⟩, ⟨_, rfl⟩, _, rfl, q, rfl, ⟨_, Same.seqT g6.s hq⟩, lcR (walk_tup (xs := cs)) (n1 := by omega) (fun H' s' => Same.seqT (g6.s.trans s') hq) (fun i y _ => ∃ s, ar.turns[i]? = some s ∧ y = .str (wordsS s)) (fun _ _ _ _ _ e => e) ?_ ?_⟩
          · rintro D acc j x Ha Hb K2 hi s nD hD ⟨rfl, ex⟩ kk
            obtain ⟨tu, en, hx⟩ := map_at hqs ex
            have htu := okF_of ok.m3 (forms_each har.cs tu (List.mem_of_getElem? en))
            exact ⟨rfl, _, rfl, x, tu, rfl, dp_same (g6.s.trans s) _ hx, htu, fun Hc sc => kk _ _ sc ⟨tu, en, rfl⟩⟩
          · rintro D H7 ys nw hlen he
            have ey : ys = (ar.turns.map wordsS).map V.str := by
              rw [List.map_map]
              exact list_is (by rw [hlen, lc]) he
            subst ey
            have g7 := g6.keep nw.2.2
            have q1 := turns_sum ok.m3 har
            have q2 := turns_len ok.m3 har
            have q3 := lineE_len ok.m3 har
            unfold lineE at q3
            refine ⟨_, D, ar.turns.map wordsS, rfl, rfl, .inl (SqL.of nw.2.1), ?_, _, _, rfl, rfl, sz9 (by rw [show ("then " : Str).length = 5 by decide +kernel]; omega), ?_⟩
            · rw [show ("; " : Str).length = 2 by decide +kernel, List.length_map]
              omega
            refine ⟨l, _, _, rfl, rfl, g7.e, small1000 (by rw [List.length_map, List.length_append, List.length_cons, List.length_map]; omega), ?_⟩
            refine ⟨_, _, _, _, _, _, _, _, rfl, ?_⟩
            have g8 := g7.put (lineE ar)
            have e8 : linesS ns ss (as.take i) ++ lineB ar :: ar.tests.map lineT ++ [lineE ar] = linesS ns ss (as.take (i + 1)) := by
              rw [List.take_add_one, ea]
              unfold linesS armL
              simp
            rw [e8] at g8
            exact g8
      · rintro σ H4 ⟨x4, x5, x6, x7, x8, x9, x10, x11, rfl, g4⟩
        rw [lz, List.take_length] at g4
        have h1 := lines_sum ok
        have h2 := lines_len ok
        refine ⟨⟨_, rfl⟩, _, rfl, _, l, linesS ns ss as, rfl, rfl, .inl (SqL.of g4.e), ?_, k H4 g4.s⟩
        rw [show ("\n" : Str).length = 1 by decide +kernel]
        omega
end
end Pg
set_option Elab.async false
set_option linter.all false
set_option maxRecDepth 100000
set_option maxHeartbeats 8000000
namespace Nu
open PySem PySem.Spec PyProof.Rows L2 TL
theorem numL_head : ∀ n : Nat, 1 ≤ n → ∃ c r, numL n = c :: r ∧ 49 ≤ c := by
  intro n
  induction n using Nat.strongRecOn with
  | _ n ih =>
    intro h1
    by_cases h : n < 10
    · exact ⟨48 + n, [], numL_lt h, by omega⟩
    · obtain ⟨c, r, e, h2⟩ := ih (n / 10) (by omega) (by omega)
      exact ⟨c, r ++ [48 + n % 10], by rw [numL_step (by omega), e, List.cons_append], h2⟩
/-- the figures of a number's text -/
def figsS (i : Int) : Str := ⟨(numL i.natAbs).toArray⟩
theorem tl_figs (i : Int) : tl (figsS i) = numL i.natAbs := rfl
theorem sub_zero (x y : Str) : Builtin.Str.subAt x y 0 = ((tl x).take y.length == tl y) := by
  unfold Builtin.Str.subAt
  rw [Bool.eq_iff_iff, beq_iff_eq, beq_iff_eq, ← Array.toList_inj, Array.toList_extract]
  simp [TL.tl, List.extract]
theorem rm_num (i : Int) : Txt.removeprefix (numS i) "-" = figsS i := by
  rw [StrLaws.removeprefix_eq, sub_zero]
  have e1 : ("-" : Str).length = 1 := by decide +kernel
  have e2 : tl ("-" : Str) = [45] := by decide +kernel
  rw [e1, e2]
  cases i with
  | ofNat n =>
    have h0 : tl (numS (Int.ofNat n)) = numL n := tl_pos n
    have hf : ((tl (numS (Int.ofNat n))).take 1 == [45]) = false := by
      rw [h0]
      cases h : numL n with
      | nil => rfl
      | cons c r =>
        have hd := numL_digits n c (by rw [h]; exact List.mem_cons_self ..)
        rw [Bool.eq_false_iff]
        intro hh
        have : [c] = [45] := by simpa using hh
        have : c = 45 := by simpa using this
        omega
    rw [hf, Bool.and_false, if_neg Bool.false_ne_true]
    exact ext_tl h0
  | negSucc n =>
    have h0 : tl (numS (Int.negSucc n)) = 45 :: numL (n + 1) := tl_neg n
    have hl : (numS (Int.negSucc n)).length = (numL (n + 1)).length + 1 := by
      rw [len_tl, h0, List.length_cons]
    have h1 : ((tl (numS (Int.negSucc n))).take 1 == [45]) = true := by
      rw [h0]
      rfl
    rw [h1, hl, decide_eq_true (by omega), Bool.and_self, if_pos rfl]
    apply ext_tl
    show ((tl (numS (Int.negSucc n))).drop 1).take _ = _
    rw [h0]
    show (numL (n + 1)).take _ = _
    rw [Nat.add_sub_cancel, List.take_length]
    rfl
end Nu
namespace Pg
open PySem PySem.Spec PyProof.Rows L2 Gd Rl Te Nu TL
abbrev sNu : Stmt := top 22
abbrev sFo : Stmt := top 34
section
variable {P : Program} {w : World} {K : PySem.W.Frag} {mg : Str → Option Value} {base : Heap} {f : Addr} {fd : FuncData}
theorem truths (n : Nat) : ((List.range n).map fun _ => true).all id = true := by
  rw [List.all_eq_true]
  intro b hb
  obtain ⟨i, _, rfl⟩ := List.mem_map.mp hb
  rfl
/-! ### is_numeral -/
def spNu (K : PySem.W.Frag) : Sp := fun vs H Q _ => ∃ i : Int, vs = [.str (numS i)] ∧ (-1000000 ≤ i ∧ i ≤ 1000000) ∧ ∀ H', Same H H' → Q (.bl true) H'
theorem scNu : FnScope ["word", "figures", "sign"] ["word"] (defScope sNu) := ⟨rfl, rfl, rfl, by decide +kernel, rfl, by decide +kernel, by decide +kernel⟩
theorem ok_nu (F : FnP K "is_numeral" sNu f fd) (T : Mo mg) : FnOk P w K mg base CX0 1 f fd ["word"] (spNu K) := by
  obtain ⟨t3, c3⟩ := T.figs
  refine F.ok scNu (fun vs H Q E h => ?_) (fun cdv A outer s H vs Q E hr h => ?_)
  · obtain ⟨v, rfl, _⟩ := h
    rfl
  · obtain ⟨i, rfl, hi, k⟩ := h
    refine ⟨_, PSs.nox <| pss_cons (ps_set (i := 1) scNu.nd rfl (.inl rfl) (pe_bm PySem.F.plainAttrs_str PySem.F.slot_str_removeprefix PySem.F.type_str_removeprefix mt_removeprefix (pv 0) (pa_cons pe_str pa_nil)))
      <| pss_cons (ps_if (PW.pt (pw_or (pt_not (pt_truth (pv 1) (by intro _; rfl))) (pw_or1 (pt_not (pt_val (pe_callB (cr_all rfl) (by rfl) T.all (by decide +kernel) (pa_cons (pe_lc (own := [("sign", 2)]) (g := gName 2) (tt := tYes) rfl scNu.nd (pi_str (pv 1)) (blkOk_by (N := ["word", "figures", "sign"]) (sc := defScope sNu) (by decide +kernel)) (fun _ _ _ _ _ => pg_name (i := 2) scNu.nd rfl (Or.inl rfl)) (fun _ _ _ _ _ => pts_nil)
          (fun _ _ _ _ _ => pe_cmpR op_in_sign (pv 2) (pe_glob (v := .str figS) (by rfl) c3 ⟨_, rfl⟩) (by rfl))) pa_nil))))))) (pss_one (ps_ret pe_bl)) pss_nil)
      <| pss_one (ps_ret (pe_or (pe_cmpR op_ne (pe_item_str (pv 1) pe_int (fun _ _ => rfl)) pe_str (nomark _)) (pe_one (pe_cmpR op_eq (pv 0) pe_str (nomark _))))), ?_⟩
    have hl := num_len hi
    have hf8 : (figsS i).length ≤ 8 := by
      rw [len_tl, tl_figs]
      exact Nat.le_trans (numL_len (n := i.natAbs) (k := 7) (by decide) (by omega)) (by decide)
    have hne : tl (figsS i) ≠ [] := numL_ne _
    have hpos : 1 ≤ (figsS i).length := len1 hne
    refine ⟨_, rfl, rfl, _, _, rfl, rfl, sz9 (by omega), ?_⟩
    rw [rm_num]
    refine ⟨_, rfl, true, ⟨sz9 (by omega), ?_⟩, ?_⟩
    · simp
      omega
    refine iteF ?_
    have hz : (figsS i).cps.size ≤ 1000 := by
      have : (figsS i).cps.size = (figsS i).length := rfl
      omega
    refine ⟨_, rfl, _, rfl, lcR walk_str (n1 := hz) (fun _ _ => trivial) (fun i y _ => y = .bl true) (fun _ _ _ _ _ e => e) ?_ ?_⟩
    · rintro D acc j x Ha Hb K2 hj s nD hD ⟨rfl, c', ec, rfl⟩ kk
      refine ⟨rfl, _, rfl, c', _, rfl, rfl, kk _ _ (Same.refl _) ?_⟩
      have hm : c' ∈ tl (figsS i) := by
        rw [← Array.getElem?_toList] at ec
        exact List.mem_of_getElem? ec
      rw [tl_figs] at hm
      have hd := numL_digits _ c' hm
      have hin : c' ∈ figS.cps.toList := by
        have e4 : figS.cps.toList = [48, 49, 50, 51, 52, 53, 54, 55, 56, 57] := by decide +kernel
        rw [e4]
        simp only [List.mem_cons, List.not_mem_nil, or_false]
        omega
      rw [decide_eq_true hin]
    · rintro D Hb ys nw hlen2 he
      have ey : ys = ((List.range (figsS i).cps.size).map fun _ => true).map V.bl := by
        rw [List.map_map]
        exact list_of hlen2 he
      refine ⟨D, _, rfl, by rw [← ey]; exact SqL.of nw.2.1, _, rfl, ?_⟩
      refine iteBF (notT (truths _)) ?_
      obtain ⟨c, r, hc⟩ : ∃ c r, tl (figsS i) = c :: r := by
        cases h : tl (figsS i) with
        | nil => exact absurd h hne
        | cons c r => exact ⟨c, r, rfl⟩
      have hc0 : (figsS i).cps[(0 : Int).toNat]? = some c := by
        have := hc
        unfold TL.tl at this
        rw [← Array.getElem?_toList, this]
        rfl
      refine ⟨_, rfl, _, 0, c, rfl, rfl, by decide, by decide, by omega, hc0, rfl, _, rfl, ?_⟩
      have kt := k Hb nw.2.2
      by_cases hz0 : i = 0
      · subst hz0
        have ec : c = 48 := by
          rw [tl_figs] at hc
          have : numL (Int.natAbs 0) = [48] := numL_lt (by decide)
          rw [this] at hc
          exact (List.cons.inj hc).1.symm
        subst ec
        refine iteBF (by decide +kernel) ?_
        refine ⟨_, rfl, rfl, ?_⟩
        rw [show decide (V.str (numS 0) = V.str "0") = true by decide +kernel]
        exact kt
      · obtain ⟨c2, r2, e2, h49⟩ := numL_head i.natAbs (by omega)
        rw [tl_figs, e2] at hc
        have ec : c = c2 := (List.cons.inj hc).1.symm
        subst ec
        refine iteBT ?_ kt
        have hne2 : ¬ (V.str ⟨#[c]⟩ = V.str "0") := fun e => by
          have e3 : (⟨#[c]⟩ : Str) = "0" := V.str.inj e
          have e4 : tl (⟨#[c]⟩ : Str) = tl ("0" : Str) := by rw [e3]
          rw [show tl ("0" : Str) = [48] by decide +kernel] at e4
          have : c = 48 := (List.cons.inj (show [c] = [48] from e4)).1
          omega
        simp [hne2]
/-! ### _form_of -/
def spFo (K : PySem.W.Frag) : Sp := fun vs H Q _ => ∃ f : List Int, vs = [.str (wordsS f)] ∧ OkF f ∧ f ≠ [] ∧ ∀ p H', Same H H' → SqT K H' p (f.map V.int) → Q (.ref p) H'
abbrev nFo : List Str := ["text", "words", "longest", "word"]
theorem scFo : FnScope nFo ["text"] (defScope sFo) := ⟨rfl, rfl, rfl, by decide +kernel, rfl, by decide +kernel, by decide +kernel⟩
theorem words_split {f : List Int} (h : f ≠ []) : Txt.split (wordsS f) " " = f.map numS := by
  unfold wordsS
  refine split_join (s := 32) (S := []) (by decide +kernel) (by decide +kernel) (fun e => h (List.map_eq_nil_iff.mp e)) fun p hp => ?_
  obtain ⟨i, _, rfl⟩ := List.mem_map.mp hp
  exact num_free i (.inl (by decide))
theorem ok_fo {fU : Addr} {dU : FuncData} (F : FnP K "_form_of" sFo f fd) (T : Mo mg) (FU : FnP K "is_numeral" sNu fU dU) (gU : mg "is_numeral" = some (.ref fU)) : FnOk P w K mg base CX0 2 f fd ["text"] (spFo K) := by
  have GU : FnOk P w K mg base CX0 1 fU dU ["word"] (spNu K) := ok_nu FU T
  have bU : Binds K dU ["word"] [] := FU.bindsN fun _ _ _ _ _ _ us hl => match us, hl with | [_], _ => rfl
  obtain ⟨t1, c1⟩ := T.mnum
  refine F.ok scFo (fun vs H Q E h => ?_) (fun cdv A outer s H vs Q E hr h => ?_)
  · obtain ⟨v, rfl, _⟩ := h
    rfl
  · obtain ⟨fo, rfl, ok, hne, k⟩ := h
    refine ⟨_, PSs.nox <| pss_cons (ps_set (i := 1) scFo.nd rfl (.inl rfl) (pe_split (pv 0) pe_str))
      <| pss_cons (ps_set (i := 2) scFo.nd rfl (.inr rfl) (pe_callB call_len_str (by rfl) T.len PySem.boot_len (pa_cons (pe_callTy call_str_int (by rfl) T.str (by decide +kernel) (pa_cons (pe_un un_neg (pe_glob (v := .int 1000000) (by rfl) c1 ⟨_, rfl⟩)) pa_nil)) pa_nil)))
      <| pss_cons (ps_if (pt_not (pt_val (pe_callB (cr_all rfl) (by rfl) T.all (by decide +kernel) (pa_cons (pe_lc (own := [("word", 3)]) (g := gName 3) (tt := tYes) rfl scFo.nd (pi_list (pv 1)) (blkOk_by (N := nFo) (sc := defScope sFo) (by decide +kernel)) (fun _ _ _ _ _ => pg_name (i := 3) scFo.nd rfl (Or.inl rfl)) (fun _ _ _ _ _ => pts_nil)
          (fun _ _ _ _ _ => pe_and (pe_cmpR op_le (pe_callB call_len_str (by rfl) T.len PySem.boot_len (pa_cons (pv 3) pa_nil)) (pv 2) (nomark _)) (pe_one (pe_call GU hr (by rfl) gU FU.kp bU .nil pass0 (pa_cons (pv 3) pa_nil))))) pa_nil)))) (pss_one ps_never) pss_nil)
      <| pss_one (ps_ret (pe_callTy call_tuple_of (by rfl) T.tuple (by decide +kernel) (pa_cons (pe_lc (own := [("word", 3)]) (g := gName 3) (tt := tYes) rfl scFo.nd (pi_list (pv 1)) (blkOk_by (N := nFo) (sc := defScope sFo) (by decide +kernel)) (fun _ _ _ _ _ => pg_name (i := 3) scFo.nd rfl (Or.inl rfl)) (fun _ _ _ _ _ => pts_nil)
          (fun _ _ _ _ _ => pe_callTy call_int_str (by rfl) T.int (by decide +kernel) (pa_cons (pv 3) pa_nil))) pa_nil))), ?_⟩
    have lw := words_len ok
    have h4 := ok.four
    refine ⟨_, rfl, ⟨_, rfl⟩, _, _, rfl, rfl, by decide +kernel, sz9 (by omega), fun l nl => ?_⟩
    rw [words_split hne]
    generalize hH1 : upd H l (.lst ((fo.map numS).map V.str)) = H1
    have s1 : Same H H1 := by
      rw [← hH1]
      exact same_new nl
    have e1 : H1 l = some (.lst ((fo.map numS).map V.str)) := by
      rw [← hH1]
      exact upd_same
    have e8 : (Str.ofString (toString (-1000000 : Int))).length = 8 := by decide +kernel
    refine ⟨1000000, rfl, _, rfl, by decide +kernel, _, rfl, sz9 (by rw [e8]; decide), ?_⟩
    rw [e8]
    have lf : ((fo.map numS).map V.str).length ≤ 1000 := by
      rw [List.length_map, List.length_map]
      omega
    have hat : ∀ {i : Nat} {x : V}, ((fo.map numS).map V.str)[i]? = some x → ∃ n, fo[i]? = some n ∧ x = .str (numS n) ∧ (-1000000 ≤ n ∧ n ≤ 1000000) := fun {i x} e => by
      obtain ⟨c, ec, rfl⟩ := strs_at e
      rw [List.getElem?_map] at ec
      cases h : fo[i]? with
      | none =>
        rw [h] at ec
        cases ec
      | some n =>
        rw [h] at ec
        exact ⟨n, rfl, by rw [← Option.some.inj ec], ok.nums n (List.mem_of_getElem? h)⟩
    refine ⟨_, rfl, l, rfl, ⟨_, SqL.of e1⟩, lcR (walk_list (xs := (fo.map numS).map V.str)) (n1 := lf) (fun H' s' => s'.seq (SqL.of e1)) (fun i y _ => y = .bl true) (fun _ _ _ _ _ e => e) ?_ ?_⟩
    · rintro D acc j x Ha Hb K2 hj s nD hD ⟨rfl, ex⟩ kk
      obtain ⟨n, en, rfl, hn⟩ := hat ex
      have hl := num_len hn
      refine ⟨rfl, _, rfl, _, rfl, sz9 (by omega), _, rfl, _, _, rfl, rfl, _, rfl, ?_⟩
      refine iteDY (by omega) ?_
      exact ⟨_, rfl, n, rfl, hn, fun Hc sc => kk _ _ sc rfl⟩
    · rintro D H2 ys nw hlen he
      have ey : ys = ((List.range ((fo.map numS).map V.str).length).map fun _ => true).map V.bl := by
        rw [List.map_map]
        exact list_of hlen he
      refine ⟨D, _, rfl, by rw [← ey]; exact SqL.of nw.2.1, _, rfl, ?_⟩
      refine iteBF (notT (truths _)) ?_
      have e2 := nw.2.2 _ _ e1
      refine ⟨_, rfl, l, rfl, ⟨_, SqL.of e2⟩, lcR (walk_list (xs := (fo.map numS).map V.str)) (n1 := lf) (fun H' s' => s'.seq (SqL.of e2)) (fun i y _ => ∃ s, fo[i]? = some s ∧ y = .int s) (fun _ _ _ _ _ e => e) ?_ ?_⟩
      · rintro D2 acc j x Ha Hb K2 hj s nD hD ⟨rfl, ex⟩ kk
        obtain ⟨n, en, rfl, hn⟩ := hat ex
        have hl := num_len hn
        exact ⟨rfl, _, rfl, _, n, rfl, num_read hn, by omega, kk _ _ (Same.refl _) ⟨n, en, rfl⟩⟩
      · rintro D2 H3 zs nw2 hlen2 he2
        have ez : zs = fo.map V.int := list_is (by rw [hlen2, List.length_map, List.length_map]) he2
        subst ez
        refine ⟨D2, _, rfl, .inl ⟨SqL.of nw2.2.1, fun q nq => ?_⟩⟩
        exact k q _ (s1.trans (nw.2.2.trans (nw2.2.2.trans (same_new nq)))) (SqT.of upd_same)
end
end Pg
set_option Elab.async false
set_option linter.all false
set_option maxRecDepth 100000
set_option maxHeartbeats 8000000
namespace Pg
open PySem PySem.Spec PyProof.Rows L2 Gd Rl Te Nu TL
abbrev sPa : Stmt := top 33
/-! ### the lines, one by one -/
inductive Ln where
  | v (ns : List Str)
  | s (p : Str) (f : List Int)
  | b (s t : Str)
  | t (f : List Int)
  | e (fs : List (List Int))
def txtL : Ln → Str
  | .v ns => lineV ns
  | .s p f => lineS (p, f)
  | .b s t => Str.empty ++ "branch " ++ s ++ " " ++ t
  | .t f => lineT f
  | .e fs => "then " ++ Txt.join "; " (fs.map wordsS)
def armN (a : Arm) : List Ln := .b a.src a.tgt :: (a.tests.map Ln.t ++ [.e a.turns])
def allN (ns : List Str) (ss : List (Str × List Int)) (as : List Arm) : List Ln := .v ns :: ((ss.map fun s => Ln.s s.1 s.2) ++ (as.map armN).flatten)
theorem txt_arm (a : Arm) : (armN a).map txtL = armL a := by
  unfold armN armL
  rw [List.map_cons, List.map_append, List.map_map]
  rfl
theorem txt_all (ns : List Str) (ss : List (Str × List Int)) (as : List Arm) : (allN ns ss as).map txtL = linesS ns ss as := by
  unfold allN linesS
  rw [List.map_cons, List.map_append, List.map_map, List.map_flatten, List.map_map]
  congr 2
  congr 1
  exact List.map_congr_left fun a _ => txt_arm a
/-- what has been read -/
structure Ms where
  names : List Str
  says : List (Str × List Int)
  arms : List Arm
  src : Str
  tgt : Str
  tests : List (List Int)
def stepM (m : Ms) : Ln → Ms
  | .v ns => { m with names := ns }
  | .s p f => { m with says := m.says ++ [(p, f)] }
  | .b s t => { m with src := s, tgt := t, tests := [] }
  | .t f => { m with tests := m.tests ++ [f] }
  | .e fs => { m with arms := m.arms ++ [⟨m.src, m.tgt, m.tests, fs⟩] }
def m0 : Ms := ⟨[], [], [], "", "", []⟩
theorem fold_says (ss : List (Str × List Int)) : ∀ m : Ms, (ss.map fun s => Ln.s s.1 s.2).foldl stepM m = { m with says := m.says ++ ss } := by
  induction ss with
  | nil =>
    intro m
    simp
  | cons s ss ih =>
    intro m
    rw [List.map_cons, List.foldl_cons, ih]
    simp [stepM]
theorem fold_tests (ts : List (List Int)) : ∀ m : Ms, (ts.map Ln.t).foldl stepM m = { m with tests := m.tests ++ ts } := by
  induction ts with
  | nil =>
    intro m
    simp
  | cons s ts ih =>
    intro m
    rw [List.map_cons, List.foldl_cons, ih]
    simp [stepM]
theorem fold_arm (a : Arm) (m : Ms) : (armN a).foldl stepM m = { m with arms := m.arms ++ [a], src := a.src, tgt := a.tgt, tests := a.tests } := by
  unfold armN
  rw [List.foldl_cons, List.foldl_append, fold_tests]
  rfl
theorem fold_arms (as : List Arm) : ∀ m : Ms, ∃ s t te, (as.map armN).flatten.foldl stepM m = { m with arms := m.arms ++ as, src := s, tgt := t, tests := te } := by
  induction as with
  | nil =>
    intro m
    exact ⟨m.src, m.tgt, m.tests, by simp⟩
  | cons a as ih =>
    intro m
    rw [List.map_cons, List.flatten_cons, List.foldl_append, fold_arm]
    obtain ⟨s, t, te, e⟩ := ih { m with arms := m.arms ++ [a], src := a.src, tgt := a.tgt, tests := a.tests }
    exact ⟨s, t, te, by rw [e]; simp⟩
theorem fold_all (ns : List Str) (ss : List (Str × List Int)) (as : List Arm) : ∃ s t te, (allN ns ss as).foldl stepM m0 = ⟨ns, ss, as, s, t, te⟩ := by
  unfold allN
  rw [List.foldl_cons, List.foldl_append, fold_says]
  obtain ⟨s, t, te, e⟩ := fold_arms as { (stepM m0 (.v ns)) with says := (stepM m0 (.v ns)).says ++ ss }
  exact ⟨s, t, te, by rw [e]; rfl⟩
/-! ### what the lines hold -/
def OkL : Ln → Prop
  | .v ns => OkN ns
  | .s p f => nameS p = true ∧ OkF f ∧ f ≠ []
  | .b s t => nameS s = true ∧ nameS t = true
  | .t f => OkF f ∧ f ≠ []
  | .e fs => fs ≠ [] ∧ fs.length ≤ 3 ∧ ∀ f ∈ fs, OkF f ∧ f ≠ []
theorem form_ne {m : Nat} {f : List Int} (h : formB m (fD f) = true) : f ≠ [] := fun e => by
  have := (form_nums h).1
  rw [e] at this
  cases this
theorem all_okL {m : Nat} (h1 : 1 ≤ m) {ns : List Str} {ss : List (Str × List Int)} {as : List Arm} (ok : OkT m ns ss as) : ∀ l ∈ allN ns ss as, OkL l := by
  intro l hl
  unfold allN at hl
  rcases List.mem_cons.mp hl with rfl | hl
  · exact ok.n
  rcases List.mem_append.mp hl with hl | hl
  · obtain ⟨s, hs, rfl⟩ := List.mem_map.mp hl
    obtain ⟨k1, k2⟩ := say_parts (ok.s.sy s hs)
    exact ⟨k1, okF_of ok.m3 k2, form_ne k2⟩
  · obtain ⟨q, hq, hl⟩ := List.mem_flatten.mp hl
    obtain ⟨a, ha, rfl⟩ := List.mem_map.mp hq
    have hA := ok.arm a ha
    unfold armN at hl
    rcases List.mem_cons.mp hl with rfl | hl
    · exact ⟨hA.s, hA.t⟩
    rcases List.mem_append.mp hl with hl | hl
    · obtain ⟨t, ht, rfl⟩ := List.mem_map.mp hl
      have hf := forms_each hA.ts t ht
      exact ⟨okF_of ok.m3 hf, form_ne hf⟩
    · rw [List.mem_singleton.mp hl]
      have hm := hA.cm
      refine ⟨fun e => ?_, by have := ok.m3; omega, fun f hf => ?_⟩
      · rw [e] at hm
        simp at hm
        omega
      · have hf := forms_each hA.cs f hf
        exact ⟨okF_of ok.m3 hf, form_ne hf⟩
/-! ### signs that do not stand in them -/
theorem name_free {z : Str} (h : nameS z = true) {s : Nat} (hs : s ∉ (letS ++ figS).cps.toList) : s ∉ tl z := by
  intro hm
  unfold nameS at h
  cases e : z.cps.toList with
  | nil =>
    unfold TL.tl at hm
    rw [e] at hm
    cases hm
  | cons c r =>
    rw [e] at h
    simp only [Bool.and_eq_true] at h
    have h2 := List.all_eq_true.mp h.2.2
    unfold TL.tl at hm
    rw [e] at hm
    exact hs (of_decide_eq_true (h2 s hm))
theorem joinL_free {s : Nat} {S : List Nat} (hS : s ∉ S) : ∀ {ps : List (List Nat)}, (∀ p ∈ ps, s ∉ p) → s ∉ joinL S ps
  | [], _ => fun h => by cases h
  | [p], h => h p (List.mem_singleton.mpr rfl)
  | p :: q :: r, h => by
    intro hm
    have e : joinL S (p :: q :: r) = p ++ (S ++ joinL S (q :: r)) := rfl
    rw [e] at hm
    rcases List.mem_append.mp hm with hm | hm
    · exact h p (List.mem_cons_self ..) hm
    rcases List.mem_append.mp hm with hm | hm
    · exact hS hm
    · exact joinL_free hS (fun z hz => h z (List.mem_cons_of_mem _ hz)) hm
theorem join_free {s : Nat} {y : Str} {ps : List Str} (hS : s ∉ tl y) (h : ∀ p ∈ ps, s ∉ tl p) : s ∉ tl (Txt.join y ps) := by
  rw [join_eq, tl_join]
  refine joinL_free hS fun p hp => ?_
  obtain ⟨z, hz, rfl⟩ := List.mem_map.mp hp
  exact h z hz
theorem words_free {s : Nat} (hs : s < 32 ∨ 57 < s) (f : List Int) : s ∉ tl (wordsS f) := by
  unfold wordsS
  refine join_free ?_ fun p hp => ?_
  · rw [show tl (" " : Str) = [32] by decide +kernel]
    simp
    omega
  · obtain ⟨i, _, rfl⟩ := List.mem_map.mp hp
    exact num_free i (by omega)
theorem free_app {s : Nat} {x y : Str} (h1 : s ∉ tl x) (h2 : s ∉ tl y) : s ∉ tl (x ++ y) := by
  rw [tl_append]
  intro h
  rcases List.mem_append.mp h with h | h
  · exact h1 h
  · exact h2 h
theorem line_free {l : Ln} (h : OkL l) : 10 ∉ tl (txtL l) := by
  have nf : ∀ {z : Str}, nameS z = true → 10 ∉ tl z := fun h => name_free h (by decide +kernel)
  cases l with
  | v ns =>
    refine join_free (by decide +kernel) fun p hp => ?_
    rcases List.mem_cons.mp hp with rfl | hp
    · decide +kernel
    · exact nf ((show OkN ns from h).nm p hp)
  | s p f => exact free_app (free_app (free_app (free_app (by decide +kernel) (by decide +kernel)) (nf h.1)) (by decide +kernel)) (words_free (by decide) f)
  | b s t => exact free_app (free_app (free_app (free_app (by decide +kernel) (by decide +kernel)) (nf h.1)) (by decide +kernel)) (nf h.2)
  | t f => exact free_app (free_app (by decide +kernel) (by decide +kernel)) (words_free (by decide) f)
  | e fs =>
    refine free_app (by decide +kernel) (join_free (by decide +kernel) fun p hp => ?_)
    obtain ⟨f, _, rfl⟩ := List.mem_map.mp hp
    exact words_free (by decide) f
theorem text_split {m : Nat} (h1 : 1 ≤ m) {ns : List Str} {ss : List (Str × List Int)} {as : List Arm} (ok : OkT m ns ss as) : Txt.split (textS ns ss as) "\n" = (allN ns ss as).map txtL := by
  unfold textS
  rw [← txt_all]
  refine split_join (s := 10) (S := []) (by decide +kernel) (by decide +kernel) (fun e => ?_) fun p hp => ?_
  · unfold allN at e
    rw [List.map_cons] at e
    cases e
  · obtain ⟨l, hl, rfl⟩ := List.mem_map.mp hp
    exact line_free (all_okL h1 ok l hl)
/-! ### the first word of a line, and the rest -/
def wordL : Ln → Str
  | .v _ => "vars"
  | .s _ _ => "say"
  | .b _ _ => "branch"
  | .t _ => "test"
  | .e _ => "then"
def restL : Ln → Str
  | .v ns => Txt.join " " ns
  | .s p f => p ++ " " ++ wordsS f
  | .b s t => s ++ " " ++ t
  | .t f => wordsS f
  | .e fs => Txt.join "; " (fs.map wordsS)
theorem line_cut {l : Ln} (h : OkL l) : txtL l = wordL l ++ " " ++ restL l := by
  cases l with
  | v ns =>
    cases ns with
    | nil => exact absurd (show OkN [] from h).one (by decide)
    | cons n r =>
      show Txt.join " " ("vars" :: n :: r) = "vars" ++ " " ++ Txt.join " " (n :: r)
      rw [join_eq, join_eq]
      rfl
  | s p f =>
    apply ext_tl
    show tl (Str.empty ++ "say " ++ p ++ " " ++ wordsS f) = tl ("say" ++ " " ++ (p ++ " " ++ wordsS f))
    simp only [tl_append, List.append_assoc]
    rw [show tl ("say " : Str) = tl ("say" : Str) ++ tl (" " : Str) by decide +kernel, List.append_assoc]
    rfl
  | b s t =>
    apply ext_tl
    show tl (Str.empty ++ "branch " ++ s ++ " " ++ t) = tl ("branch" ++ " " ++ (s ++ " " ++ t))
    simp only [tl_append, List.append_assoc]
    rw [show tl ("branch " : Str) = tl ("branch" : Str) ++ tl (" " : Str) by decide +kernel, List.append_assoc]
    rfl
  | t f =>
    apply ext_tl
    show tl (Str.empty ++ "test " ++ wordsS f) = tl ("test" ++ " " ++ wordsS f)
    simp only [tl_append, List.append_assoc]
    rw [show tl ("test " : Str) = tl ("test" : Str) ++ tl (" " : Str) by decide +kernel, List.append_assoc]
    rfl
  | e fs =>
    apply ext_tl
    show tl ("then " ++ Txt.join "; " (fs.map wordsS)) = tl ("then" ++ " " ++ Txt.join "; " (fs.map wordsS))
    simp only [tl_append, List.append_assoc]
    rw [show tl ("then " : Str) = tl ("then" : Str) ++ tl (" " : Str) by decide +kernel, List.append_assoc]
theorem word_free (l : Ln) : 32 ∉ tl (wordL l) := by
  cases l with
  | v _ => exact (by decide +kernel : 32 ∉ tl ("vars" : Str))
  | s _ _ => exact (by decide +kernel : 32 ∉ tl ("say" : Str))
  | b _ _ => exact (by decide +kernel : 32 ∉ tl ("branch" : Str))
  | t _ => exact (by decide +kernel : 32 ∉ tl ("test" : Str))
  | e _ => exact (by decide +kernel : 32 ∉ tl ("then" : Str))
theorem line_part {l : Ln} (h : OkL l) : Txt.partition (txtL l) " " = (wordL l, (" " : Str), restL l) := by
  rw [line_cut h]
  exact partition_app (s := 32) (S := []) (by decide +kernel) (word_free l)
theorem two_part {a b : Str} (h : nameS a = true) : Txt.partition (a ++ " " ++ b) " " = (a, (" " : Str), b) :=
  partition_app (s := 32) (S := []) (by decide +kernel) (name_free h (by decide +kernel))
theorem names_split {ns : List Str} (h : OkN ns) : Txt.split (Txt.join " " ns) " " = ns :=
  split_join (y := " ") (s := 32) (S := []) (by decide +kernel) (by decide +kernel) (fun e => absurd h.one (by rw [e]; decide)) fun p hp => name_free (h.nm p hp) (by decide +kernel)
theorem turns_split {fs : List (List Int)} (h : fs ≠ []) : Txt.split (Txt.join "; " (fs.map wordsS)) "; " = fs.map wordsS := by
  refine split_join (s := 59) (S := [32]) (by decide +kernel) (by decide +kernel) (fun e => h (List.map_eq_nil_iff.mp e)) fun p hp => ?_
  obtain ⟨f, _, rfl⟩ := List.mem_map.mp hp
  exact words_free (by decide) f
end Pg
set_option Elab.async false
set_option linter.all false
set_option maxRecDepth 100000
set_option maxHeartbeats 16000000
namespace Pg
open PySem PySem.Spec PyProof.Rows L2 Gd Rl Te Nu TL
/-! ### data without lists stays where a list is changed -/
mutual
def nolD : PyData → Bool
  | .list _ => false
  | .tuple ds => nolAll ds
  | _ => true
def nolAll : List PyData → Bool
  | [] => true
  | d :: ds => nolD d && nolAll ds
end
theorem seqT_upd {K : PySem.W.Frag} {H : Hp} {l a : Addr} {X Y xs : List V} (hl : H l = some (.lst X)) (h : SqT K H a xs) : SqT K (upd H l (.lst Y)) a xs := by
  rcases h with (h | ⟨o, h⟩) | h
  · refine .inl (.inl ?_)
    rw [upd_ne (fun e => by rw [e, hl] at h; cases h)]
    exact h
  · refine .inl (.inr ⟨o, ?_⟩)
    rw [upd_ne (fun e => by rw [e, hl] at h; cases h)]
    exact h
  · exact .inr h
mutual
theorem dp_upd {K : PySem.W.Frag} {H : Hp} {l : Addr} {X Y : List V} (hl : H l = some (.lst X)) : ∀ (d : PyData) {v : V}, nolD d = true → Dp K H v d → Dp K (upd H l (.lst Y)) v d
  | .none, _, _, h => by cases h; exact .non
  | .bool b, _, _, h => by cases h; exact .bl b
  | .int i, _, _, h => by cases h; exact .int i
  | .str z, _, _, h => by cases h; exact .str z
  | .list ds, _, n, _ => by cases n
  | .tuple ds, _, n, h => by
    cases h with
    | tup hs ha => exact .tup (seqT_upd hl hs) (dp_updAll hl ds (by rw [nolD] at n; exact n) ha)
  | .dict _, _, _, h => by cases h
theorem dp_updAll {K : PySem.W.Frag} {H : Hp} {l : Addr} {X Y : List V} (hl : H l = some (.lst X)) : ∀ (ds : List PyData) {vs : List V}, nolAll ds = true → DpAll K H vs ds → DpAll K (upd H l (.lst Y)) vs ds
  | [], _, _, h => by cases h; exact .nil
  | d :: ds, _, n, h => by
    rw [nolAll, Bool.and_eq_true] at n
    cases h with
    | cons h1 h2 => exact .cons (dp_upd hl d n.1 h1) (dp_updAll hl ds n.2 h2)
end
theorem nol_all : ∀ {l : List PyData}, (∀ d ∈ l, nolD d = true) → nolAll l = true
  | [], _ => rfl
  | d :: l, h => by
    rw [nolAll, h d (List.mem_cons_self ..), nol_all fun e he => h e (List.mem_cons_of_mem _ he)]
    rfl
theorem nol_map {α : Type} {g : α → PyData} (h : ∀ a, nolD (g a) = true) (l : List α) : nolAll (l.map g) = true := nol_all fun d hd => by
  obtain ⟨a, _, rfl⟩ := List.mem_map.mp hd
  exact h a
theorem nol_f (f : List Int) : nolD (fD f) = true := by
  unfold fD
  rw [nolD]
  exact nol_map (fun _ => rfl) f
theorem nol_fs (fs : List (List Int)) : nolD (.tuple (fs.map fD)) = true := by
  rw [nolD]
  exact nol_map nol_f fs
theorem nol_say (s : Str × List Int) : nolD (sayD s) = true := by
  unfold sayD
  simp only [nolD, nolAll, nol_f]
  rfl
theorem nol_four {a b c d : PyData} (h1 : nolD a = true) (h2 : nolD b = true) (h3 : nolD c = true) (h4 : nolD d = true) : nolD (.tuple [a, b, c, d]) = true := by
  simp only [nolD, nolAll, h1, h2, h3, h4]
  rfl
theorem nol_arm (a : Arm) : nolD (armD a) = true := nol_four rfl rfl (nol_fs _) (nol_fs _)
theorem dp_snoc {K : PySem.W.Frag} {H : Hp} {v : V} {d : PyData} (hd : Dp K H v d) : ∀ {vs : List V} {ds : List PyData}, DpAll K H vs ds → DpAll K H (vs ++ [v]) (ds ++ [d])
  | _, _, .nil => .cons hd .nil
  | _, _, .cons a b => .cons a (dp_snoc hd b)
/-! ### what stands while the lines are read -/
structure LstD (K : PySem.W.Frag) (H0 H : Hp) (l : Addr) (ds : List PyData) : Prop where
  n : H0 l = none
  x : ∃ X, H l = some (.lst X) ∧ DpAll K H X ds
theorem LstD.same {K : PySem.W.Frag} {H0 H H' : Hp} {l : Addr} {ds : List PyData} (d : LstD K H0 H l ds) (s : Same H H') : LstD K H0 H' l ds :=
  ⟨d.n, d.x.elim fun X h => ⟨X, s _ _ h.1, dp_sameAll s _ h.2⟩⟩
theorem LstD.other {K : PySem.W.Frag} {H0 H : Hp} {l k : Addr} {ds : List PyData} {X Y : List V} (d : LstD K H0 H l ds) (n : nolAll ds = true) (hk : H k = some (.lst X)) (ne : l ≠ k) : LstD K H0 (upd H k (.lst Y)) l ds :=
  ⟨d.n, d.x.elim fun Z h => ⟨Z, by rw [upd_ne ne]; exact h.1, dp_updAll hk _ n h.2⟩⟩
theorem LstD.put {K : PySem.W.Frag} {H0 H : Hp} {l : Addr} {ds : List PyData} {X : List V} {v : V} {e : PyData} (d : LstD K H0 H l ds) (n : nolAll ds = true) (hl : H l = some (.lst X)) (he : Dp K H v e) (ne : nolD e = true) : LstD K H0 (upd H l (.lst (X ++ [v]))) l (ds ++ [e]) := by
  obtain ⟨Z, h1, h2⟩ := d.x
  rw [hl] at h1
  cases h1
  exact ⟨d.n, _, upd_same, dp_snoc (dp_upd hl _ ne he) (dp_updAll hl _ n h2)⟩
structure RepS (K : PySem.W.Frag) (H0 H : Hp) (m : Ms) (a l1 l2 e l3 lL : Addr) (L : List Str) : Prop where
  s : Same H0 H
  na : SqT K H a (m.names.map V.str)
  d1 : LstD K H0 H l1 (m.says.map sayD)
  d2 : LstD K H0 H l2 (m.arms.map armD)
  se : SqT K H e [.str m.src, .str m.tgt]
  d3 : LstD K H0 H l3 (m.tests.map fD)
  ll : H lL = some (.lst (L.map V.str))
  n12 : l1 ≠ l2
  n13 : l1 ≠ l3
  n23 : l2 ≠ l3
  nL1 : lL ≠ l1
  nL2 : lL ≠ l2
  nL3 : lL ≠ l3
section
variable {K : PySem.W.Frag} {H0 H H' : Hp} {m : Ms} {a l1 l2 e l3 lL : Addr} {L : List Str}
theorem RepS.same (r : RepS K H0 H m a l1 l2 e l3 lL L) (s : Same H H') : RepS K H0 H' m a l1 l2 e l3 lL L :=
  ⟨r.s.trans s, Same.seqT s r.na, r.d1.same s, r.d2.same s, Same.seqT s r.se, r.d3.same s, s _ _ r.ll, r.n12, r.n13, r.n23, r.nL1, r.nL2, r.nL3⟩
theorem keep_new {l : Addr} {Y : List V} (s : Same H0 H) (n : H0 l = none) : Same H0 (upd H l (.lst Y)) := fun b o h => by
  rw [upd_ne (ne_of_none h n)]
  exact s _ _ h
theorem RepS.put1 {X : List V} {v : V} {p : Str} {f : List Int} (r : RepS K H0 H m a l1 l2 e l3 lL L) (h : H l1 = some (.lst X)) (hv : Dp K H v (sayD (p, f))) : RepS K H0 (upd H l1 (.lst (X ++ [v]))) (stepM m (.s p f)) a l1 l2 e l3 lL L :=
  ⟨keep_new r.s r.d1.n, seqT_upd h r.na, by
    show LstD _ _ _ _ ((m.says ++ [(p, f)]).map sayD)
    rw [List.map_append]
    exact r.d1.put (nol_map nol_say _) h hv (nol_say _), r.d2.other (nol_map nol_arm _) h r.n12.symm, seqT_upd h r.se, r.d3.other (nol_map nol_f _) h r.n13.symm, by rw [upd_ne r.nL1]; exact r.ll, r.n12, r.n13, r.n23, r.nL1, r.nL2, r.nL3⟩
theorem RepS.put2 {X : List V} {v : V} {fs : List (List Int)} (r : RepS K H0 H m a l1 l2 e l3 lL L) (h : H l2 = some (.lst X)) (hv : Dp K H v (armD ⟨m.src, m.tgt, m.tests, fs⟩)) : RepS K H0 (upd H l2 (.lst (X ++ [v]))) (stepM m (.e fs)) a l1 l2 e l3 lL L :=
  ⟨keep_new r.s r.d2.n, seqT_upd h r.na, r.d1.other (nol_map nol_say _) h r.n12, by
    show LstD _ _ _ _ ((m.arms ++ [(⟨m.src, m.tgt, m.tests, fs⟩ : Arm)]).map armD)
    rw [List.map_append]
    exact r.d2.put (nol_map nol_arm _) h hv (nol_arm _), seqT_upd h r.se, r.d3.other (nol_map nol_f _) h r.n23.symm, by rw [upd_ne r.nL2]; exact r.ll, r.n12, r.n13, r.n23, r.nL1, r.nL2, r.nL3⟩
theorem RepS.put3 {X : List V} {v : V} {f : List Int} (r : RepS K H0 H m a l1 l2 e l3 lL L) (h : H l3 = some (.lst X)) (hv : Dp K H v (fD f)) : RepS K H0 (upd H l3 (.lst (X ++ [v]))) (stepM m (.t f)) a l1 l2 e l3 lL L :=
  ⟨keep_new r.s r.d3.n, seqT_upd h r.na, r.d1.other (nol_map nol_say _) h r.n13, r.d2.other (nol_map nol_arm _) h r.n23, seqT_upd h r.se, by
    show LstD _ _ _ _ ((m.tests ++ [f]).map fD)
    rw [List.map_append]
    exact r.d3.put (nol_map nol_f _) h hv (nol_f _), by rw [upd_ne r.nL3]; exact r.ll, r.n12, r.n13, r.n23, r.nL1, r.nL2, r.nL3⟩
end
theorem dp_ints {K : PySem.W.Frag} {H : Hp} {p : Addr} {f : List Int} (h : SqT K H p (f.map V.int)) : Dp K H (.ref p) (fD f) := by
  refine .tup h ?_
  clear h
  induction f with
  | nil => exact .nil
  | cons i f ih => exact .cons (.int i) ih
theorem dp_names {K : PySem.W.Frag} {H : Hp} {p : Addr} {ns : List Str} (h : SqT K H p (ns.map V.str)) : Dp K H (.ref p) (namesD ns) := by
  refine .tup h ?_
  clear h
  induction ns with
  | nil => exact .nil
  | cons i f ih => exact .cons (.str i) ih
theorem lt24 {n : Nat} (h : n ≤ 10000) : n + 2 ≤ sizeLine := by
  have : sizeLine = 16777216 := by decide
  omega
theorem seqT_del {K : PySem.W.Frag} {H : Hp} {l a : Addr} {X xs : List V} (hl : H l = some (.lst X)) (h : SqT K H a xs) : SqT K (delH H l) a xs := by
  rcases h with (h | ⟨o, h⟩) | h
  · refine .inl (.inl ?_)
    rw [delH_ne (fun e => by rw [e, hl] at h; cases h)]
    exact h
  · refine .inl (.inr ⟨o, ?_⟩)
    rw [delH_ne (fun e => by rw [e, hl] at h; cases h)]
    exact h
  · exact .inr h
def cnt (m : Ms) : Nat := m.says.length + m.arms.length + m.tests.length
theorem cnt_step (m : Ms) (l : Ln) : cnt (stepM m l) ≤ cnt m + 1 := by
  cases l <;> simp only [cnt, stepM, List.length_append, List.length_cons, List.length_nil] <;> omega
theorem cnt_fold (ls : List Ln) : ∀ m : Ms, cnt (ls.foldl stepM m) ≤ cnt m + ls.length := by
  induction ls with
  | nil => exact fun m => Nat.le_refl _
  | cons l ls ih =>
    intro m
    rw [List.foldl_cons, List.length_cons]
    have h1 := ih (stepM m l)
    have h2 := cnt_step m l
    omega
theorem del_same {H : Hp} {D : Addr} : Same (delH H D) H := fun b u e => by
  by_cases q : b = D
  · rw [q, delH_same] at e
    cases e
  · rw [delH_ne q] at e
    exact e
theorem neV {a b : Str} (h : tl a ≠ tl b) : ¬ (V.str a = V.str b) := fun e => h (by rw [V.str.inj e])
section
variable {P : Program} {w : World} {K : PySem.W.Frag} {mg : Str → Option Value} {base : Heap} {f : Addr} {fd : FuncData}
def spPa (K : PySem.W.Frag) : Sp := fun vs H Q _ => ∃ (m : Nat) (ns : List Str) (ss : List (Str × List Int)) (as : List Arm), vs = [.str (textS ns ss as)] ∧ 1 ≤ m ∧ OkT m ns ss as ∧
  ∀ p a b c H', Same H H' → SqT K H' p [.ref a, .ref b, .ref c] → Dp K H' (.ref a) (namesD ns) → Dp K H' (.ref b) (saysD ss) → Dp K H' (.ref c) (armsD as) → Q (.ref p) H'
abbrev nPa : List Str := ["text", "names", "sayings", "branches", "ends", "tests", "line", "word", "_", "rest", "place", "numbers", "source", "target", "changes", "part"]
theorem scPa : FnScope nPa ["text"] (defScope sPa) := ⟨rfl, rfl, rfl, by decide +kernel, rfl, by decide +kernel, by decide +kernel⟩
theorem ok_pa {fO fU : Addr} {dO dU : FuncData} (F : FnP K "_parts_of" sPa f fd) (T : Mo mg) (FO : FnP K "_form_of" sFo fO dO) (gO : mg "_form_of" = some (.ref fO)) (FU : FnP K "is_numeral" sNu fU dU) (gU : mg "is_numeral" = some (.ref fU)) : FnOk P w K mg base CX0 3 f fd ["text"] (spPa K) := by
  have GO : FnOk P w K mg base CX0 2 fO dO ["text"] (spFo K) := ok_fo FO T FU gU
  have bO : Binds K dO ["text"] [] := FO.bindsN fun _ _ _ _ _ _ us hl => match us, hl with | [_], _ => rfl
  refine F.ok scPa (fun vs H Q E h => ?_) (fun cdv A outer s H vs Q E hr h => ?_)
  · obtain ⟨m, ns, ss, as, rfl, _⟩ := h
    rfl
  · obtain ⟨m, ns, ss, as, rfl, m1, ok, k⟩ := h
    refine ⟨_, PSs.nox <| pss_cons (ps_set (i := 1) scPa.nd rfl (.inl rfl) (pe_tupR pa_nil))
      <| pss_cons (ps_set (i := 2) scPa.nd rfl (.inl rfl) (pe_lstR pa_nil))
      <| pss_cons (ps_set (i := 3) scPa.nd rfl (.inl rfl) (pe_lstR pa_nil))
      <| pss_cons (ps_set (i := 4) scPa.nd rfl (.inl rfl) (pe_tupR (pa_cons pe_str (pa_cons pe_str pa_nil))))
      <| pss_cons (ps_set (i := 5) scPa.nd rfl (.inl rfl) (pe_lstR pa_nil))
      <| pss_cons (ps_for PassesOwn.never rfl (pi_list (pe_split (pv 0) pe_str)) (pg_name (i := 6) scPa.nd rfl (.inl rfl))
          (pss_cons (ps_asg (pe_partition (pv 6) pe_str) (pg_tup (by rfl) (pgs_cons (pg_name (i := 7) scPa.nd rfl (.inl rfl)) (pgs_cons (pg_name (i := 8) scPa.nd rfl (.inl rfl)) (pgs_cons (pg_name (i := 9) scPa.nd rfl (.inl rfl)) pgs_nil)))))
          <| pss_one (ps_if (pt_cmpR op_eq (pv 7) pe_str (nomark _))
              (pss_one (ps_set (i := 1) scPa.nd rfl (.inl rfl) (pe_callTy call_tuple_of (by rfl) T.tuple (by decide +kernel) (pa_cons (pe_split (pv 9) pe_str) pa_nil))))
              (pss_one (ps_if (pt_cmpR op_eq (pv 7) pe_str (nomark _))
                (pss_cons (ps_asg (pe_partition (pv 9) pe_str) (pg_tup (by rfl) (pgs_cons (pg_name (i := 10) scPa.nd rfl (.inl rfl)) (pgs_cons (pg_name (i := 8) scPa.nd rfl (.inl rfl)) (pgs_cons (pg_name (i := 11) scPa.nd rfl (.inl rfl)) pgs_nil)))))
                <| pss_one (ps_expr (pe_bm PySem.F.plainAttrs_list PySem.F.slot_list_append PySem.F.type_list_append mt_append (pv 2) (pa_cons (pe_tupR (pa_cons (pv 10) (pa_cons (pe_call GO hr (by rfl) gO FO.kp bO .nil pass0 (pa_cons (pv 11) pa_nil)) pa_nil))) pa_nil))))
                (pss_one (ps_if (pt_cmpR op_eq (pv 7) pe_str (nomark _))
                  (pss_cons (ps_asg (pe_partition (pv 9) pe_str) (pg_tup (by rfl) (pgs_cons (pg_name (i := 12) scPa.nd rfl (.inl rfl)) (pgs_cons (pg_name (i := 8) scPa.nd rfl (.inl rfl)) (pgs_cons (pg_name (i := 13) scPa.nd rfl (.inl rfl)) pgs_nil)))))
                  <| pss_cons (ps_set (i := 4) scPa.nd rfl (.inl rfl) (pe_tupR (pa_cons (pv 12) (pa_cons (pv 13) pa_nil))))
                  <| pss_one (ps_set (i := 5) scPa.nd rfl (.inl rfl) (pe_lstR pa_nil)))
                  (pss_one (ps_if (pt_cmpR op_eq (pv 7) pe_str (nomark _))
                    (pss_one (ps_expr (pe_bm PySem.F.plainAttrs_list PySem.F.slot_list_append PySem.F.type_list_append mt_append (pv 5) (pa_cons (pe_call GO hr (by rfl) gO FO.kp bO .nil pass0 (pa_cons (pv 9) pa_nil)) pa_nil))))
                    (pss_one (ps_if (pt_cmpR op_eq (pv 7) pe_str (nomark _))
                      (pss_cons (ps_setLc (i := 14) (own := [("part", 15)]) (g := gName 15) (tt := tYes) rfl scPa.nd rfl rfl (sw_true rfl rfl rfl (by decide +kernel)) (pi_list (pe_split (pv 9) pe_str)) (blkOk_by (N := nPa) (sc := defScope sPa) (by decide +kernel)) (fun _ _ _ _ _ => pg_name (i := 15) scPa.nd rfl (Or.inl rfl)) (fun _ _ _ _ _ => pts_nil)
                          (fun _ _ _ _ _ => pe_call GO hr (by rfl) gO FO.kp bO .nil pass0 (pa_cons (pv 15) pa_nil)))
                      <| pss_one (ps_expr (pe_bm PySem.F.plainAttrs_list PySem.F.slot_list_append PySem.F.type_list_append mt_append (pv 3) (pa_cons (pe_tupR (StX.pa_star (pv 4) (pa_cons (pe_callTy call_tuple_of (by rfl) T.tuple (by decide +kernel) (pa_cons (pv 5) pa_nil)) (pa_cons (pe_callTy call_tuple_of (by rfl) T.tuple (by decide +kernel) (pa_cons (pv 14) pa_nil)) pa_nil)))) pa_nil))))
                      pss_nil)))))))))))
      <| pss_one (ps_ret (pe_tupR (pa_cons (pv 1) (pa_cons (pe_callTy call_tuple_of (by rfl) T.tuple (by decide +kernel) (pa_cons (pv 2) pa_nil)) (pa_cons (pe_callTy call_tuple_of (by rfl) T.tuple (by decide +kernel) (pa_cons (pv 3) pa_nil)) pa_nil))))), ?_⟩
    refine ⟨(show 0 ≤ 1000 by decide), fun a H1 n1 => ⟨(show 0 ≤ 1000 by decide), fun l1 H2 n2 => ⟨(show 0 ≤ 1000 by decide), fun l2 H3 n3 => ⟨(show 2 ≤ 1000 by decide), fun e H4 n4 => ⟨(show 0 ≤ 1000 by decide), fun l3 H5 n5 => ?_⟩⟩⟩⟩⟩
    have s45 := n5.2.2
    have s35 := n4.2.2.trans s45
    have s25 := n3.2.2.trans s35
    have s15 := n2.2.2.trans s25
    have s05 := n1.2.2.trans s15
    have tlen := text_len ok
    refine ⟨_, rfl, ⟨_, rfl⟩, _, _, rfl, rfl, by decide +kernel, lt24 (by omega), fun lL nL => ?_⟩
    rw [text_split m1 ok]
    have okl := all_okL m1 ok
    have llen : (allN ns ss as).length ≤ 29 := by
      have := lines_len ok
      rw [← txt_all, List.length_map] at this
      exact this
    have z1 : H l1 = none := none_of_same n1.2.2 n2.1
    have z2 : H l2 = none := none_of_same (n1.2.2.trans n2.2.2) n3.1
    have z3 : H l3 = none := none_of_same (n1.2.2.trans (n2.2.2.trans (n3.2.2.trans n4.2.2))) n5.1
    have y1 := s25 _ _ n2.2.1
    have y2 := s35 _ _ n3.2.1
    have y3 := n5.2.1
    have r0 : RepS K H (upd H5 lL (.lst (((allN ns ss as).map txtL).map V.str))) m0 a l1 l2 e l3 lL ((allN ns ss as).map txtL) := by
      have sN := same_new (o := .lst (((allN ns ss as).map txtL).map V.str)) nL
      exact ⟨s05.trans sN, SqT.of (sN _ _ (s15 _ _ n1.2.1)), ⟨z1, _, sN _ _ y1, .nil⟩, ⟨z2, _, sN _ _ y2, .nil⟩, SqT.of (sN _ _ (s45 _ _ n4.2.1)), ⟨z3, _, sN _ _ y3, .nil⟩, upd_same,
        ne_of_none n2.2.1 n3.1, ne_of_none (n4.2.2 _ _ (n3.2.2 _ _ n2.2.1)) n5.1, ne_of_none (n4.2.2 _ _ n3.2.1) n5.1, (ne_of_none y1 nL).symm, (ne_of_none y2 nL).symm, (ne_of_none y3 nL).symm⟩
    generalize upd H5 lL (.lst (((allN ns ss as).map txtL).map V.str)) = H6 at r0
    refine ⟨lL, rfl, ⟨_, SqL.of r0.ll⟩, for_list (xs := ((allN ns ss as).map txtL).map V.str) (fun i σ H' => ∃ a l1 l2 e l3 x6 x7 x8 x9 x10 x11 x12 x13 x14 x15, σ = [some (.str (textS ns ss as)), some (.ref a), some (.ref l1), some (.ref l2), some (.ref e), some (.ref l3), x6, x7, x8, x9, x10, x11, x12, x13, x14, x15] ∧ RepS K H H' (((allN ns ss as).take i).foldl stepM m0) a l1 l2 e l3 lL ((allN ns ss as).map txtL)) ⟨_, _, _, _, _, _, _, _, _, _, _, _, _, _, _, rfl, r0⟩ (fun i σ H' _ ⟨_, _, _, _, _, _, _, _, _, _, _, _, _, _, _, _, r⟩ => SqL.of r.ll) ?_ ?_⟩
    · rintro i x σ H7 ex ⟨a, l1, l2, e, l3, x6, x7, x8, x9, x10, x11, x12, x13, x14, x15, rfl, r⟩
      rw [List.map_map, List.getElem?_map] at ex
      obtain ⟨ln, eln, rfl⟩ : ∃ ln, (allN ns ss as)[i]? = some ln ∧ x = .str (txtL ln) := by
        cases h : (allN ns ss as)[i]? with
        | none =>
          rw [h] at ex
          cases ex
        | some ln =>
          rw [h] at ex
          exact ⟨ln, rfl, (Option.some.inj ex).symm⟩
      have hok := okl ln (List.mem_of_getElem? eln)
      have ef : ((allN ns ss as).take (i + 1)).foldl stepM m0 = stepM (((allN ns ss as).take i).foldl stepM m0) ln := by
        rw [List.take_add_one, eln, List.foldl_append]
        rfl
      rw [ef]
      have hlen : (txtL ln).length ≤ 119 := by
        refine lines_each ok _ ?_
        rw [← txt_all]
        exact List.mem_map_of_mem (List.mem_of_getElem? eln)
      have hcnt := cnt_fold ((allN ns ss as).take i) m0
      rw [List.length_take] at hcnt
      have hc0 : cnt m0 = 0 := rfl
      generalize ((allN ns ss as).take i).foldl stepM m0 = m at r hcnt ⊢
      have hcm : cnt m ≤ 29 := by omega
      unfold cnt at hcm
      clear ef eln ex
      refine ⟨_, rfl, ⟨_, rfl⟩, _, _, rfl, rfl, by decide +kernel, sz9 (by omega), fun p np => ?_⟩
      rw [line_part hok]
      have hcut := line_cut hok
      have hrest : (restL ln).length ≤ 119 := by
        rw [hcut, len_app, len_app] at hlen
        omega
      refine ⟨p, _, rfl, SqT.of upd_same, rfl, _, _, rfl, _, _, rfl, _, _, rfl, rfl, ?_⟩
      have r1 := r.same (same_new (o := .tup [.str (wordL ln), .str " ", .str (restL ln)]) np)
      generalize upd H7 p (.tup [.str (wordL ln), .str " ", .str (restL ln)]) = H8 at r1
      refine ⟨_, rfl, rfl, _, rfl, ?_⟩
      cases ln with
      | v ns2 =>
        refine iteDY rfl ?_
        have hok2 : OkN ns2 := hok
        refine ⟨_, rfl, ⟨_, rfl⟩, _, _, rfl, rfl, by decide +kernel, lt24 (Nat.le_trans hrest (by decide)), fun q nq => ?_⟩
        show ∃ p2 ys, _
        rw [show restL (.v ns2) = Txt.join " " ns2 from rfl, names_split hok2]
        refine ⟨q, _, rfl, .inl ⟨SqL.of upd_same, fun q2 nq2 => ?_⟩⟩
        refine ⟨_, _, _, _, _, _, _, _, _, _, _, _, _, _, _, rfl, ?_⟩
        have r2 := r1.same ((same_new nq).trans (same_new (o := .tup (ns2.map V.str)) nq2))
        exact ⟨r2.s, SqT.of upd_same, r2.d1, r2.d2, r2.se, r2.d3, r2.ll, r2.n12, r2.n13, r2.n23, r2.nL1, r2.nL2, r2.nL3⟩
      | s pl fo =>
        refine iteDN (neV (show tl ("say" : Str) ≠ tl ("vars" : Str) by decide +kernel)) ?_
        refine ⟨_, rfl, rfl, _, rfl, ?_⟩
        refine iteDY rfl ?_
        refine ⟨_, rfl, ⟨_, rfl⟩, _, _, rfl, rfl, by decide +kernel, sz9 (Nat.le_trans hrest (by decide)), fun q nq => ?_⟩
        rw [show restL (.s pl fo) = pl ++ " " ++ wordsS fo from rfl, two_part hok.1]
        refine ⟨q, _, rfl, SqT.of upd_same, rfl, _, _, rfl, _, _, rfl, _, _, rfl, rfl, ?_⟩
        have r2 := r1.same (same_new (o := .tup [.str pl, .str " ", .str (wordsS fo)]) nq)
        generalize upd H8 q (.tup [.str pl, .str " ", .str (wordsS fo)]) = H9 at r2
        obtain ⟨X1, hX1, hD1⟩ := r2.d1.x
        have l1n := dp_len hD1
        rw [List.length_map] at l1n
        refine ⟨_, rfl, .inl ⟨rfl, _, SqL.of hX1⟩, _, rfl, _, rfl, fo, rfl, hok.2.1, hok.2.2, fun p3 H10 s10 hp3 => ⟨(show 2 ≤ 1000 by decide), fun q4 H11 n11 => ?_⟩⟩
        have s911 := s10.trans n11.2.2
        have r3 := r2.same s911
        refine ⟨l1, _, _, rfl, rfl, s911 _ _ hX1, small1000 (by omega), ?_⟩
        refine ⟨_, _, _, _, _, _, _, _, _, _, _, _, _, _, _, rfl, ?_⟩
        exact r3.put1 (s911 _ _ hX1) (.tup (SqT.of n11.2.1) (.cons (.str _) (.cons (dp_ints (Same.seqT n11.2.2 hp3)) .nil)))
      | b sr tg =>
        refine iteDN (neV (show tl ("branch" : Str) ≠ tl ("vars" : Str) by decide +kernel)) ?_
        refine ⟨_, rfl, rfl, _, rfl, ?_⟩
        refine iteDN (neV (show tl ("branch" : Str) ≠ tl ("say" : Str) by decide +kernel)) ?_
        refine ⟨_, rfl, rfl, _, rfl, ?_⟩
        refine iteDY rfl ?_
        refine ⟨_, rfl, ⟨_, rfl⟩, _, _, rfl, rfl, by decide +kernel, sz9 (Nat.le_trans hrest (by decide)), fun q nq => ?_⟩
        rw [show restL (.b sr tg) = sr ++ " " ++ tg from rfl, two_part hok.1]
        refine ⟨q, _, rfl, SqT.of upd_same, rfl, _, _, rfl, _, _, rfl, _, _, rfl, rfl, ?_⟩
        have r2 := r1.same (same_new (o := .tup [.str sr, .str " ", .str tg]) nq)
        generalize upd H8 q (.tup [.str sr, .str " ", .str tg]) = H9 at r2
        refine ⟨_, rfl, _, rfl, (show 2 ≤ 1000 by decide), fun e2 H10 n10 => ⟨(show 0 ≤ 1000 by decide), fun l4 H11 n11 => ?_⟩⟩
        refine ⟨_, _, _, _, _, _, _, _, _, _, _, _, _, _, _, rfl, ?_⟩
        have r3 := r2.same n10.2.2
        have r4 := r3.same n11.2.2
        obtain ⟨X1, hX1, hD1⟩ := r3.d1.x
        obtain ⟨X2, hX2, hD2⟩ := r3.d2.x
        exact ⟨r4.s, r4.na, r4.d1, r4.d2, SqT.of (n11.2.2 _ _ n10.2.1), ⟨none_of_same r3.s n11.1, _, n11.2.1, .nil⟩, r4.ll, r4.n12, ne_of_none hX1 n11.1, ne_of_none hX2 n11.1, r4.nL1, r4.nL2, ne_of_none r3.ll n11.1⟩
      | t fo =>
        refine iteDN (neV (show tl ("test" : Str) ≠ tl ("vars" : Str) by decide +kernel)) ?_
        refine ⟨_, rfl, rfl, _, rfl, ?_⟩
        refine iteDN (neV (show tl ("test" : Str) ≠ tl ("say" : Str) by decide +kernel)) ?_
        refine ⟨_, rfl, rfl, _, rfl, ?_⟩
        refine iteDN (neV (show tl ("test" : Str) ≠ tl ("branch" : Str) by decide +kernel)) ?_
        refine ⟨_, rfl, rfl, _, rfl, ?_⟩
        refine iteDY rfl ?_
        obtain ⟨X3, hX3, hD3⟩ := r1.d3.x
        have l3n := dp_len hD3
        rw [List.length_map] at l3n
        refine ⟨_, rfl, .inl ⟨rfl, _, SqL.of hX3⟩, _, rfl, fo, rfl, hok.1, hok.2, fun p3 H10 s10 hp3 => ?_⟩
        have r3 := r1.same s10
        refine ⟨l3, _, _, rfl, rfl, s10 _ _ hX3, small1000 (by omega), ?_⟩
        refine ⟨_, _, _, _, _, _, _, _, _, _, _, _, _, _, _, rfl, ?_⟩
        exact r3.put3 (s10 _ _ hX3) (dp_ints hp3)
      | e fs =>
        refine iteDN (neV (show tl ("then" : Str) ≠ tl ("vars" : Str) by decide +kernel)) ?_
        refine ⟨_, rfl, rfl, _, rfl, ?_⟩
        refine iteDN (neV (show tl ("then" : Str) ≠ tl ("say" : Str) by decide +kernel)) ?_
        refine ⟨_, rfl, rfl, _, rfl, ?_⟩
        refine iteDN (neV (show tl ("then" : Str) ≠ tl ("branch" : Str) by decide +kernel)) ?_
        refine ⟨_, rfl, rfl, _, rfl, ?_⟩
        refine iteDN (neV (show tl ("then" : Str) ≠ tl ("test" : Str) by decide +kernel)) ?_
        refine ⟨_, rfl, rfl, _, rfl, ?_⟩
        refine iteDY rfl ?_
        obtain ⟨f0, f3, fo⟩ : fs ≠ [] ∧ fs.length ≤ 3 ∧ ∀ f ∈ fs, OkF f ∧ f ≠ [] := hok
        refine ⟨_, rfl, ⟨_, rfl⟩, _, _, rfl, rfl, by decide +kernel, lt24 (Nat.le_trans hrest (by decide)), fun q nq => ?_⟩
        rw [show restL (.e fs) = Txt.join "; " (fs.map wordsS) from rfl, turns_split f0]
        have hq : (upd H8 q (.lst ((fs.map wordsS).map V.str))) q = some (.lst ((fs.map wordsS).map V.str)) := upd_same
        have r2 := r1.same (same_new (o := .lst ((fs.map wordsS).map V.str)) nq)
        generalize upd H8 q (.lst ((fs.map wordsS).map V.str)) = H9 at r2 hq
        refine ⟨q, rfl, ⟨_, SqL.of hq⟩, lcR (walk_list (xs := (fs.map wordsS).map V.str)) (n1 := by rw [List.length_map, List.length_map]; omega) (fun H' s' => s'.seq (SqL.of hq)) (fun i y Hc => ∃ g, fs[i]? = some g ∧ Dp K Hc y (fD g)) (fun i y Ha Hb s ⟨g, e1, e2⟩ => ⟨g, e1, dp_same s _ e2⟩) ?_ ?_⟩
        · rintro D acc j x Ha Hb K2 hj s nD hD ⟨rfl, ex⟩ kk
          obtain ⟨c, ec, rfl⟩ := strs_at ex
          rw [List.getElem?_map] at ec
          obtain ⟨g, eg, rfl⟩ : ∃ g, fs[j]? = some g ∧ c = wordsS g := by
            cases h : fs[j]? with
            | none =>
              rw [h] at ec
              cases ec
            | some g =>
              rw [h] at ec
              exact ⟨g, rfl, (Option.some.inj ec).symm⟩
          obtain ⟨g1, g2⟩ := fo g (List.mem_of_getElem? eg)
          exact ⟨rfl, _, rfl, g, rfl, g1, g2, fun p3 Hc sc hp3 => kk _ _ sc ⟨g, eg, dp_ints (seqT_del (sc _ _ hD) hp3)⟩⟩
        · rintro D H10 ys n10 hlen he
          have hys : DpAll K H10 ys (fs.map fD) := by
            refine dp_of (by rw [hlen, List.length_map, List.length_map, List.length_map]) fun j y ey => ?_
            obtain ⟨g, e1, e2⟩ := he j y ey
            exact ⟨fD g, by rw [List.getElem?_map, e1]; rfl, dp_same del_same _ e2⟩
          have r3 := r2.same n10.2.2
          obtain ⟨X2, hX2, hD2⟩ := r3.d2.x
          obtain ⟨X3, hX3, hD3⟩ := r3.d3.x
          have l2n := dp_len hD2
          rw [List.length_map] at l2n
          refine ⟨_, rfl, .inl ⟨rfl, _, SqL.of hX2⟩, _, rfl, e, _, rfl, .inl r3.se, _, rfl, l3, _, rfl, .inl ⟨SqL.of hX3, fun q1 nq1 => ?_⟩⟩
          have t1 := same_new (o := .tup X3) nq1
          refine ⟨_, rfl, D, _, rfl, .inl ⟨SqL.of (t1 _ _ n10.2.1), fun q2 nq2 => ?_⟩⟩
          have t2 := same_new (o := .tup ys) nq2
          refine ⟨(show 4 ≤ 1000 by decide), fun q3 H12 n12 => ?_⟩
          have t23 := t2.trans n12.2.2
          have t13 := t1.trans t23
          have r4 := r3.same t13
          refine ⟨l2, _, _, rfl, rfl, t13 _ _ hX2, small1000 (by omega), ?_⟩
          refine ⟨_, _, _, _, _, _, _, _, _, _, _, _, _, _, _, rfl, ?_⟩
          exact r4.put2 (t13 _ _ hX2) (.tup (SqT.of n12.2.1) (.cons (.str _) (.cons (.str _) (.cons (.tup (SqT.of (t23 _ _ upd_same)) (dp_sameAll t13 _ hD3)) (.cons (.tup (SqT.of (n12.2.2 _ _ upd_same)) (dp_sameAll t13 _ hys)) .nil)))))
    · rintro σ H7 ⟨a, l1, l2, e, l3, x6, x7, x8, x9, x10, x11, x12, x13, x14, x15, rfl, r⟩
      rw [List.length_map, List.length_map, List.take_length] at r
      obtain ⟨fs, ft, fte, ef⟩ := fold_all ns ss as
      rw [ef] at r
      obtain ⟨X1, hX1, hD1⟩ := r.d1.x
      obtain ⟨X2, hX2, hD2⟩ := r.d2.x
      refine ⟨_, rfl, _, rfl, l1, _, rfl, .inl ⟨SqL.of hX1, fun q1 nq1 => ?_⟩⟩
      have t1 := same_new (o := .tup X1) nq1
      refine ⟨_, rfl, l2, _, rfl, .inl ⟨SqL.of (t1 _ _ hX2), fun q2 nq2 => ?_⟩⟩
      have t2 := same_new (o := .tup X2) nq2
      refine ⟨(show 3 ≤ 1000 by decide), fun q H8 n8 => ?_⟩
      have t12 := t2.trans n8.2.2
      have t02 := t1.trans t12
      exact k q a q1 q2 H8 (r.s.trans t02) (SqT.of n8.2.1) (dp_names (Same.seqT t02 r.na)) (.tup (SqT.of (t12 _ _ upd_same)) (dp_sameAll t02 _ hD1)) (.tup (SqT.of (n8.2.2 _ _ upd_same)) (dp_sameAll t02 _ hD2))
end
end Pg
set_option Elab.async false
set_option linter.all false
set_option maxRecDepth 100000
set_option maxHeartbeats 8000000
namespace Pg
open PySem PySem.Spec PyProof.Rows L2 Gd Rl Te Nu TL Ow
abbrev sCls : Stmt := top 24
abbrev sIni : Stmt := inClass sCls 0
abbrev sLen : Stmt := inClass sCls 10
abbrev sStr : Stmt := inClass sCls 11
abbrev sRep : Stmt := inClass sCls 12
abbrev FunP (K : PySem.W.Frag) (x q : Str) (st : Stmt) (f : Addr) (fd : FuncData) : Prop := FunD K x q (defArgs st) (defBody st) (defScope st) [] [] f fd
/-! ### the object -/
def pfP (a b c d t : V) : List (Str × V) := putF "_text" t (putF "_places" d (putF "_branches" c (putF "_sayings" b (putF "_names" a []))))
theorem ns1 : ¬ (("_names" : Str) = "_text") := by decide +kernel
theorem ns2 : ¬ (("_names" : Str) = "_places") := by decide +kernel
theorem ns3 : ¬ (("_names" : Str) = "_branches") := by decide +kernel
theorem ns4 : ¬ (("_names" : Str) = "_sayings") := by decide +kernel
theorem ss1 : ¬ (("_sayings" : Str) = "_text") := by decide +kernel
theorem ss2 : ¬ (("_sayings" : Str) = "_places") := by decide +kernel
theorem ss3 : ¬ (("_sayings" : Str) = "_branches") := by decide +kernel
theorem bs1 : ¬ (("_branches" : Str) = "_text") := by decide +kernel
theorem bs2 : ¬ (("_branches" : Str) = "_places") := by decide +kernel
theorem ps1 : ¬ (("_places" : Str) = "_text") := by decide +kernel
section
variable (a b c d t : V)
theorem pf_n : (pfP a b c d t).lookup ("_names" : Str) = some a := by
  unfold pfP
  rw [lookup_putF, if_neg ns1, lookup_putF, if_neg ns2, lookup_putF, if_neg ns3, lookup_putF, if_neg ns4, lookup_putF, if_pos rfl]
theorem pf_s : (pfP a b c d t).lookup ("_sayings" : Str) = some b := by
  unfold pfP
  rw [lookup_putF, if_neg ss1, lookup_putF, if_neg ss2, lookup_putF, if_neg ss3, lookup_putF, if_pos rfl]
theorem pf_b : (pfP a b c d t).lookup ("_branches" : Str) = some c := by
  unfold pfP
  rw [lookup_putF, if_neg bs1, lookup_putF, if_neg bs2, lookup_putF, if_pos rfl]
theorem pf_p : (pfP a b c d t).lookup ("_places" : Str) = some d := by
  unfold pfP
  rw [lookup_putF, if_neg ps1, lookup_putF, if_pos rfl]
theorem pf_t : (pfP a b c d t).lookup ("_text" : Str) = some t := by
  unfold pfP
  rw [lookup_putF, if_pos rfl]
end
theorem putF_len (f : Str) (v : V) : ∀ fs : List (Str × V), (putF f v fs).length ≤ fs.length + 1
  | [] => Nat.le_refl _
  | (g, u) :: fs => by
    have ih := putF_len f v fs
    unfold putF
    split
    · simp
    · simp only [List.length_cons]
      omega
theorem seqT_ins {K : PySem.W.Frag} {H : Hp} {p C dx a : Addr} {fs : List (Str × V)} {o : HO} {xs : List V} (hp : H p = some (.ins C dx fs)) (h : SqT K H a xs) : SqT K (upd H p o) a xs := by
  rcases h with (h | ⟨u, h⟩) | h
  · refine .inl (.inl ?_)
    rw [upd_ne (fun e => by rw [e, hp] at h; cases h)]
    exact h
  · refine .inl (.inr ⟨u, ?_⟩)
    rw [upd_ne (fun e => by rw [e, hp] at h; cases h)]
    exact h
  · exact .inr h
/-- a program stands at p -/
def ProgAt (K : PySem.W.Frag) (C : Addr) (H : Hp) (p : Addr) (ns : List Str) (ss : List (Str × List Int)) (as : List Arm) : Prop :=
  ∃ (dx : Addr) (a b c : V) (d : Addr), H p = some (.ins C dx (pfP a b c (.ref d) (.str (textS ns ss as)))) ∧ Dp K H a (namesD ns) ∧ Dp K H b (saysD ss) ∧ Dp K H c (armsD as) ∧ SqT K H d ((placesS ss as).map V.str)
theorem ProgAt.same {K : PySem.W.Frag} {C : Addr} {H H' : Hp} {p : Addr} {ns : List Str} {ss : List (Str × List Int)} {as : List Arm} (g : ProgAt K C H p ns ss as) (s : Same H H') : ProgAt K C H' p ns ss as :=
  let ⟨dx, a, b, c, d, h1, h2, h3, h4, h5⟩ := g
  ⟨dx, a, b, c, d, s _ _ h1, dp_same s _ h2, dp_same s _ h3, dp_same s _ h4, Same.seqT s h5⟩
/-- the class's facts -/
structure Txt (K : PySem.W.Frag) (mg : Str → Option Value) (C : Addr) : Prop where
  cl : Cls K C
  n : NoAttr K C "_names"
  s : NoAttr K C "_sayings"
  b : NoAttr K C "_branches"
  p : NoAttr K C "_places"
  t : NoAttr K C "_text"
  g : mg "Program" = some (.ref C)
/-- the parts are right -/
structure OkP (ns : List Str) (ss : List (Str × List Int)) (as : List Arm) : Prop where
  n : OkN ns
  s : OkS ns.length ss
  a : OkA ns.length ss as
theorem OkP.t {ns : List Str} {ss : List (Str × List Int)} {as : List Arm} (o : OkP ns ss as) : OkT ns.length ns ss as := ⟨o.n.three, o.n, o.s, o.a.five, o.a.arm⟩
/-- where the module's defs stand -/
structure Defs (K : PySem.W.Frag) (mg : Str → Option Value) (fI fN fF fS fU fCN fCS fCB fY fB fP fX fW fA fO : Addr) (dI dN dF dS dU dCN dCS dCB dY dB dP dX dW dA dO : FuncData) : Prop where
  J : Js K mg fI fN fF fS dI dN dF dS
  u : FnP K "is_numeral" sNu fU dU
  cn : FnP K "_check_names" sCN fCN dCN
  cs : FnP K "_check_sayings" sCS fCS dCS
  cb : FnP K "_check_branches" sCB fCB dCB
  y : FnP K "_is_saying" sSay fY dY
  b : FnP K "_is_branch" sBr fB dB
  p : FnP K "_places_of" sPl fP dP
  x : FnP K "_text_of" sTx fX dX
  w : FnP K "_words_of" sWd fW dW
  a : FnP K "_parts_of" sPa fA dA
  o : FnP K "_form_of" sFo fO dO
  gu : mg "is_numeral" = some (.ref fU)
  gcn : mg "_check_names" = some (.ref fCN)
  gcs : mg "_check_sayings" = some (.ref fCS)
  gcb : mg "_check_branches" = some (.ref fCB)
  gy : mg "_is_saying" = some (.ref fY)
  gb : mg "_is_branch" = some (.ref fB)
  gp : mg "_places_of" = some (.ref fP)
  gx : mg "_text_of" = some (.ref fX)
  gw : mg "_words_of" = some (.ref fW)
  ga : mg "_parts_of" = some (.ref fA)
  go : mg "_form_of" = some (.ref fO)
section
variable {P : Program} {w : World} {K : PySem.W.Frag} {mg : Str → Option Value} {base : Heap} {f C : Addr} {fd : FuncData}
variable {fI fN fF fS fU fCN fCS fCB fY fB fP fX fW fA fO : Addr} {dI dN dF dS dU dCN dCS dCB dY dB dP dX dW dA dO : FuncData}
def spIni (K : PySem.W.Frag) (C : Addr) : Sp := fun vs H Q _ => ∃ (H0 : Hp) (p dx : Addr) (u v z : V) (ns : List Str) (ss : List (Str × List Int)) (as : List Arm), vs = [.ref p, u, v, z] ∧ Same H0 H ∧ H0 p = none ∧ H p = some (.ins C dx []) ∧ Dp K H0 u (namesD ns) ∧ Dp K H0 v (saysD ss) ∧ Dp K H0 z (armsD as) ∧ OkP ns ss as ∧
  ∀ H', Same H0 H' → ProgAt K C H' p ns ss as → Q .non H'
theorem same_put {H0 H : Hp} {p : Addr} {o : HO} (s : Same H0 H) (n : H0 p = none) : Same H0 (upd H p o) := fun b u h => by
  rw [upd_ne (ne_of_none h n)]
  exact s _ _ h
theorem scIni : FnScope ["self", "names", "sayings", "branches"] ["self", "names", "sayings", "branches"] (defScope sIni) := ⟨rfl, rfl, rfl, by decide +kernel, rfl, by decide +kernel, by decide +kernel⟩
theorem dp_lenN {H : Hp} {v : V} {ds : List PyData} (h : Dp K H v (.tuple ds)) : ∃ a, v = .ref a ∧ ∃ xs, SqT K H a xs ∧ xs.length = ds.length := by
  obtain ⟨a, xs, e, h1, h2⟩ := rp_tup (.inl h)
  exact ⟨a, e, xs, h1, dp_len h2⟩
theorem ok_ini (F : FunP K "__init__" "Program.__init__" sIni f fd) (T : Mo mg) (X : Txt K mg C) (D : Defs K mg fI fN fF fS fU fCN fCS fCB fY fB fP fX fW fA fO dI dN dF dS dU dCN dCS dCB dY dB dP dX dW dA dO) : FnOk P w K mg base CX0 7 f fd ["self", "names", "sayings", "branches"] (spIni K C) := by
  have GN : FnOk P w K mg base CX0 2 fCN dCN ["names"] (spCN K) := ok_cn D.cn T D.J
  have GS : FnOk P w K mg base CX0 5 fCS dCS ["sayings", "many"] (spCS K) := ok_cs D.cs T D.J D.y D.gy
  have GB : FnOk P w K mg base CX0 6 fCB dCB ["branches", "many", "sayings"] (spCB K) := ok_cb D.cb T D.J D.b D.gb D.p D.gp
  have GP : FnOk P w K mg base CX0 1 fP dP ["sayings", "branches"] (spPl K) := ok_pl D.p T
  have GX : FnOk P w K mg base CX0 2 fX dX ["names", "sayings", "branches"] (spTx K) := ok_tx D.x T D.w D.gw
  have bN : Binds K dCN ["names"] [] := D.cn.bindsN fun _ _ _ _ _ _ us hl => match us, hl with | [_], _ => rfl
  have bS : Binds K dCS ["sayings", "many"] [] := D.cs.bindsN fun _ _ _ _ _ _ us hl => match us, hl with | [_, _], _ => rfl
  have bB : Binds K dCB ["branches", "many", "sayings"] [] := D.cb.bindsN fun _ _ _ _ _ _ us hl => match us, hl with | [_, _, _], _ => rfl
  have bP : Binds K dP ["sayings", "branches"] [] := D.p.bindsN fun _ _ _ _ _ _ us hl => match us, hl with | [_, _], _ => rfl
  have bX : Binds K dX ["names", "sayings", "branches"] [] := D.x.bindsN fun _ _ _ _ _ _ us hl => match us, hl with | [_, _, _], _ => rfl
  refine F.ok scIni (fun vs H Q E h => ?_) (fun cdv A outer s H vs Q E hr h => ?_)
  · obtain ⟨H0, p, dx, u, v, z, ns, ss, as, rfl, _⟩ := h
    rfl
  · obtain ⟨H0, p, dx, u, v, z, ns, ss, as, rfl, s0, n0, hp, hu, hv, hz, ok, k⟩ := h
    have hr4 := hr.mono (show 5 ≤ 6 by decide)
    have hr2 := hr.mono (show 2 ≤ 6 by decide)
    have hr1 := hr.mono (show 1 ≤ 6 by decide)
    refine ⟨_, PSs.nox <| pss_cons (ps_expr (pe_call GN hr2 (by rfl) D.gcn D.cn.kp bN .nil pass0 (pa_cons (pv 1) pa_nil)))
      <| pss_cons (ps_expr (pe_call GS hr4 (by rfl) D.gcs D.cs.kp bS .nil pass0 (pa_cons (pv 2) (pa_cons (pe_callB call_len (by rfl) T.len PySem.boot_len (pa_cons (pv 1) pa_nil)) pa_nil))))
      <| pss_cons (ps_expr (pe_call GB hr (by rfl) D.gcb D.cb.kp bB .nil pass0 (pa_cons (pv 3) (pa_cons (pe_callB call_len (by rfl) T.len PySem.boot_len (pa_cons (pv 1) pa_nil)) (pa_cons (pv 2) pa_nil)))))
      <| pss_cons (ps_fld (pv 0) (pv 1) rfl)
      <| pss_cons (ps_fld (pv 0) (pv 2) rfl)
      <| pss_cons (ps_fld (pv 0) (pv 3) rfl)
      <| pss_cons (ps_fld (pv 0) (pe_call GP hr1 (by rfl) D.gp D.p.kp bP .nil pass0 (pa_cons (pv 2) (pa_cons (pv 3) pa_nil))) rfl)
      <| pss_one (ps_fld (pv 0) (pe_call GX hr2 (by rfl) D.gx D.x.kp bX .nil pass0 (pa_cons (pv 1) (pa_cons (pv 2) (pa_cons (pv 3) pa_nil)))) rfl), ?_⟩
    have okT := ok.t
    have n3 := ok.n.three
    have lnN : ∀ {H' : Hp}, Same H0 H' → ∃ a, u = .ref a ∧ ∃ xs, SqT K H' a xs ∧ xs.length = ns.length := fun s => by
      obtain ⟨a, e, xs, h1, h2⟩ := dp_lenN (dp_same s _ hu)
      exact ⟨a, e, xs, h1, by rw [h2, List.length_map]⟩
    refine ⟨_, rfl, u, ns, rfl, dp_same s0 _ hu, ok.n, fun H1 s1 => ?_⟩
    have s01 := s0.trans s1
    obtain ⟨a, ea, xs, hx, lx⟩ := lnN s01
    subst ea
    refine ⟨_, rfl, _, rfl, _, _, rfl, .inr ⟨_, hx, rfl⟩, ?_⟩
    rw [lx]
    refine ⟨v, ns.length, ss, rfl, by omega, dp_same s01 _ hv, ok.s, fun H2 s2 => ?_⟩
    have s02 := s01.trans s2
    refine ⟨_, rfl, _, rfl, _, _, rfl, .inr ⟨_, Same.seqT s2 hx, rfl⟩, ?_⟩
    rw [lx]
    refine ⟨_, rfl, z, v, ns.length, ss, as, rfl, by omega, dp_same s02 _ hz, dp_same s02 _ hv, ok.s.three, ok.a, fun H3 s3 => ?_⟩
    have s03 := s02.trans s3
    have hp3 := s3 _ _ (s2 _ _ (s1 _ _ hp))
    refine ⟨_, rfl, _, rfl, p, C, dx, _, rfl, hp3, X.cl, X.n, (by decide), ?_⟩
    refine ⟨_, rfl, _, rfl, p, C, dx, _, rfl, upd_same, X.cl, X.s, Nat.lt_of_le_of_lt (putF_len _ _ _) (by decide), ?_⟩
    refine ⟨_, rfl, _, rfl, p, C, dx, _, rfl, upd_same, X.cl, X.b, Nat.lt_of_le_of_lt (putF_len _ _ _) (Nat.lt_of_le_of_lt (Nat.succ_le_succ (putF_len _ _ _)) (by decide)), ?_⟩
    have l3 : (putF ("_branches" : Str) z (putF "_sayings" v (putF "_names" (V.ref a) []))).length ≤ 3 := by
      have h1 := putF_len "_branches" z (putF "_sayings" v (putF "_names" (V.ref a) []))
      have h2 := putF_len "_sayings" v (putF "_names" (V.ref a) [])
      have h3 := putF_len "_names" (V.ref a) []
      simp only [List.length_nil] at h3
      omega
    generalize hG : upd (upd (upd H3 p (.ins C dx (putF "_names" (V.ref a) []))) p (.ins C dx (putF "_sayings" v (putF "_names" (V.ref a) [])))) p (.ins C dx (putF "_branches" z (putF "_sayings" v (putF "_names" (V.ref a) [])))) = H4
    have s04 : Same H0 H4 := by
      rw [← hG]
      exact same_put (same_put (same_put s03 n0) n0) n0
    have hp4 : H4 p = some (.ins C dx (putF "_branches" z (putF "_sayings" v (putF "_names" (V.ref a) [])))) := by
      rw [← hG]
      exact upd_same
    clear hG
    refine ⟨_, rfl, _, rfl, v, z, ss, as, rfl, dp_same s04 _ hv, dp_same s04 _ hz, ok.s.three, ok.a.five, fun d H5 s5 hd => ?_⟩
    refine ⟨_, rfl, p, C, dx, _, rfl, s5 _ _ hp4, X.cl, X.p, by omega, ?_⟩
    have s06 : Same H0 (upd H5 p (.ins C dx (putF "_places" (V.ref d) (putF "_branches" z (putF "_sayings" v (putF "_names" (V.ref a) [])))))) := same_put (s04.trans s5) n0
    have l4 : (putF ("_places" : Str) (V.ref d) (putF "_branches" z (putF "_sayings" v (putF "_names" (V.ref a) [])))).length ≤ 4 := by
      have h1 := putF_len "_places" (V.ref d) (putF "_branches" z (putF "_sayings" v (putF "_names" (V.ref a) [])))
      omega
    refine ⟨_, rfl, _, rfl, _, rfl, .ref a, v, z, ns.length, ns, ss, as, rfl, dp_same s06 _ hu, dp_same s06 _ hv, dp_same s06 _ hz, okT, fun H7 s7 => ?_⟩
    refine ⟨_, rfl, p, C, dx, _, rfl, s7 _ _ upd_same, X.cl, X.t, by omega, ?_⟩
    have s08 : Same H0 (upd H7 p (.ins C dx (pfP (.ref a) v z (.ref d) (.str (textS ns ss as))))) := same_put (s06.trans s7) n0
    refine k _ s08 ⟨dx, .ref a, v, z, d, upd_same, dp_same s08 _ hu, dp_same s08 _ hv, dp_same s08 _ hz, ?_⟩
    exact seqT_ins (s7 _ _ upd_same) (Same.seqT s7 (seqT_ins (s5 _ _ hp4) hd))
def spGet (K : PySem.W.Frag) (C : Addr) (B : List Str → List (Str × List Int) → List Arm → V → Hp → Prop) : Sp := fun vs H Q _ => ∃ (p : Addr) (ns : List Str) (ss : List (Str × List Int)) (as : List Arm), vs = [.ref p] ∧ ProgAt K C H p ns ss as ∧ OkP ns ss as ∧ ∀ v, B ns ss as v H → Q v H
theorem scOf1 {st : Stmt} (h1 : FnScope ["self"] ["self"] (defScope st)) : FnScope ["self"] ["self"] (defScope st) := h1
theorem scLen : FnScope ["self"] ["self"] (defScope sLen) := ⟨rfl, rfl, rfl, by decide +kernel, rfl, by decide +kernel, by decide +kernel⟩
theorem scStr : FnScope ["self"] ["self"] (defScope sStr) := ⟨rfl, rfl, rfl, by decide +kernel, rfl, by decide +kernel, by decide +kernel⟩
theorem scRep : FnScope ["self"] ["self"] (defScope sRep) := ⟨rfl, rfl, rfl, by decide +kernel, rfl, by decide +kernel, by decide +kernel⟩
def reprS (n : Nat) : Str := Str.empty ++ "Program of " ++ numS n ++ " branches"
theorem arms_lenH {H : Hp} {v : V} {as : List Arm} (h : Dp K H v (armsD as)) : ∃ a xs, v = .ref a ∧ SqT K H a xs ∧ xs.length = as.length := by
  obtain ⟨a, xs, e, h1, h2⟩ := rp_tup (.inl h)
  exact ⟨a, xs, e, h1, by rw [dp_len h2, List.length_map]⟩
theorem ok_len (F : FunP K "__len__" "Program.__len__" sLen f fd) (T : Mo mg) (X : Txt K mg C) : FnOk P w K mg base CX0 1 f fd ["self"] (spGet K C fun ns ss as v _ => v = .int as.length) := by
  refine F.ok scLen (fun vs H Q E h => ?_) (fun cdv A outer s H vs Q E hr h => ?_)
  · obtain ⟨p, ns, ss, as, rfl, _⟩ := h
    rfl
  · obtain ⟨p, ns, ss, as, rfl, ⟨dx, a, b, c, d, hp, ha, hb, hc, hd⟩, ok, k⟩ := h
    refine ⟨_, PSs.nox <| pss_one (ps_ret (pe_callB call_len (by rfl) T.len PySem.boot_len (pa_cons (pe_fld (pv 0) rfl) pa_nil))), ?_⟩
    obtain ⟨q, xs, rfl, hq, lq⟩ := arms_lenH hc
    exact ⟨_, rfl, p, C, dx, _, _, rfl, hp, X.cl, X.b, pf_b _ _ _ _ _, _, _, rfl, .inr ⟨_, hq, rfl⟩, by rw [lq]; exact k _ rfl⟩
theorem ok_str (F : FunP K "__str__" "Program.__str__" sStr f fd) (T : Mo mg) (X : Txt K mg C) : FnOk P w K mg base CX0 1 f fd ["self"] (spGet K C fun ns ss as v _ => v = .str (textS ns ss as)) := by
  refine F.ok scStr (fun vs H Q E h => ?_) (fun cdv A outer s H vs Q E hr h => ?_)
  · obtain ⟨p, ns, ss, as, rfl, _⟩ := h
    rfl
  · obtain ⟨p, ns, ss, as, rfl, ⟨dx, a, b, c, d, hp, ha, hb, hc, hd⟩, ok, k⟩ := h
    refine ⟨_, PSs.nox <| pss_one (ps_ret (pe_callTy SkE.call_str_str (by rfl) T.str (by decide +kernel) (pa_cons (pe_fld (pv 0) rfl) pa_nil))), ?_⟩
    exact ⟨_, rfl, p, C, dx, _, _, rfl, hp, X.cl, X.t, pf_t _ _ _ _ _, _, rfl, k _ rfl⟩
theorem ok_rep (F : FunP K "__repr__" "Program.__repr__" sRep f fd) (T : Mo mg) (X : Txt K mg C) : FnOk P w K mg base CX0 1 f fd ["self"] (spGet K C fun ns ss as v _ => v = .str (reprS as.length)) := by
  refine F.ok scRep (fun vs H Q E h => ?_) (fun cdv A outer s H vs Q E hr h => ?_)
  · obtain ⟨p, ns, ss, as, rfl, _⟩ := h
    rfl
  · obtain ⟨p, ns, ss, as, rfl, ⟨dx, a, b, c, d, hp, ha, hb, hc, hd⟩, ok, k⟩ := h
    refine ⟨_, PSs.nox <| pss_one (ps_ret (pe_joined (.cons pe_str <| .cons (pe_fmt (pe_callB call_len (by rfl) T.len PySem.boot_len (pa_cons (pe_fld (pv 0) rfl) pa_nil))) <| .cons pe_str .nil))), ?_⟩
    obtain ⟨q, xs, rfl, hq, lq⟩ := arms_lenH hc
    have a5 := ok.a.five
    have hn : (-1000000 : Int) ≤ (as.length : Int) ∧ (as.length : Int) ≤ 1000000 := by omega
    have l8 := num_len hn
    refine ⟨_, rfl, by decide +kernel, _, rfl, p, C, dx, _, _, rfl, hp, X.cl, X.b, pf_b _ _ _ _ _, _, _, rfl, .inr ⟨_, hq, rfl⟩, ?_⟩
    rw [lq]
    refine .inr ⟨_, rfl, num_log hn, _, rfl, sz9 ?_, _, rfl, sz9 ?_, k _ rfl⟩
    · show (Str.empty ++ "Program of " ++ numS as.length : Str).length ≤ 1000
      rw [len_app, len_app, e0, show ("Program of " : Str).length = 11 by decide +kernel]
      omega
    · show (Str.empty ++ "Program of " ++ numS as.length ++ " branches" : Str).length ≤ 1000
      rw [len_app, len_app, len_app, e0, show ("Program of " : Str).length = 11 by decide +kernel, show (" branches" : Str).length = 9 by decide +kernel]
      omega
end
end Pg
set_option Elab.async false
set_option linter.all false
set_option maxRecDepth 100000
set_option maxHeartbeats 8000000
namespace Pg
open PySem PySem.Spec PyProof.Rows L2 Gd Rl Te Nu TL Ow
abbrev sRd : Stmt := inClass sCls 1
abbrev sGn : Stmt := inClass sCls 2
abbrev sGs : Stmt := inClass sCls 3
abbrev sGb : Stmt := inClass sCls 4
abbrev sGp : Stmt := inClass sCls 5
abbrev sGt : Stmt := inClass sCls 6
section
variable {P : Program} {w : World} {K : PySem.W.Frag} {mg : Str → Option Value} {base : Heap} {f C : Addr} {fd : FuncData}
variable {fI fN fF fS fU fCN fCS fCB fY fB fP fX fW fA fO : Addr} {dI dN dF dS dU dCN dCS dCB dY dB dP dX dW dA dO : FuncData}
theorem sc_names : FnScope ["self"] ["self"] (defScope sGn) := ⟨rfl, rfl, rfl, by decide +kernel, rfl, by decide +kernel, by decide +kernel⟩
theorem ok_gnames (F : FunP K "names" "Program.names" sGn f fd) (X : Txt K mg C) : FnOk P w K mg base CX0 1 f fd ["self"] (spGet K C fun ns ss as v H => Dp K H v (namesD ns)) := by
  refine F.ok sc_names (fun vs H Q E h => ?_) (fun cdv A outer s H vs Q E hr h => ?_)
  · obtain ⟨p, ns, ss, as, rfl, _⟩ := h
    rfl
  · obtain ⟨p, ns, ss, as, rfl, ⟨dx, a, b, c, d, hp, ha, hb, hc, hd⟩, ok, k⟩ := h
    refine ⟨_, PSs.nox <| pss_one (ps_ret (pe_fld (pv 0) rfl)), ?_⟩
    exact ⟨_, rfl, p, C, dx, _, _, rfl, hp, X.cl, X.n, pf_n _ _ _ _ _, k _ ha⟩
theorem sc_sayings : FnScope ["self"] ["self"] (defScope sGs) := ⟨rfl, rfl, rfl, by decide +kernel, rfl, by decide +kernel, by decide +kernel⟩
theorem ok_gsayings (F : FunP K "sayings" "Program.sayings" sGs f fd) (X : Txt K mg C) : FnOk P w K mg base CX0 1 f fd ["self"] (spGet K C fun ns ss as v H => Dp K H v (saysD ss)) := by
  refine F.ok sc_sayings (fun vs H Q E h => ?_) (fun cdv A outer s H vs Q E hr h => ?_)
  · obtain ⟨p, ns, ss, as, rfl, _⟩ := h
    rfl
  · obtain ⟨p, ns, ss, as, rfl, ⟨dx, a, b, c, d, hp, ha, hb, hc, hd⟩, ok, k⟩ := h
    refine ⟨_, PSs.nox <| pss_one (ps_ret (pe_fld (pv 0) rfl)), ?_⟩
    exact ⟨_, rfl, p, C, dx, _, _, rfl, hp, X.cl, X.s, pf_s _ _ _ _ _, k _ hb⟩
theorem sc_branches : FnScope ["self"] ["self"] (defScope sGb) := ⟨rfl, rfl, rfl, by decide +kernel, rfl, by decide +kernel, by decide +kernel⟩
theorem ok_gbranches (F : FunP K "branches" "Program.branches" sGb f fd) (X : Txt K mg C) : FnOk P w K mg base CX0 1 f fd ["self"] (spGet K C fun ns ss as v H => Dp K H v (armsD as)) := by
  refine F.ok sc_branches (fun vs H Q E h => ?_) (fun cdv A outer s H vs Q E hr h => ?_)
  · obtain ⟨p, ns, ss, as, rfl, _⟩ := h
    rfl
  · obtain ⟨p, ns, ss, as, rfl, ⟨dx, a, b, c, d, hp, ha, hb, hc, hd⟩, ok, k⟩ := h
    refine ⟨_, PSs.nox <| pss_one (ps_ret (pe_fld (pv 0) rfl)), ?_⟩
    exact ⟨_, rfl, p, C, dx, _, _, rfl, hp, X.cl, X.b, pf_b _ _ _ _ _, k _ hc⟩
theorem sc_places : FnScope ["self"] ["self"] (defScope sGp) := ⟨rfl, rfl, rfl, by decide +kernel, rfl, by decide +kernel, by decide +kernel⟩
theorem ok_gplaces (F : FunP K "places" "Program.places" sGp f fd) (X : Txt K mg C) : FnOk P w K mg base CX0 1 f fd ["self"] (spGet K C fun ns ss as v H => ∃ d, v = .ref d ∧ SqT K H d ((placesS ss as).map V.str)) := by
  refine F.ok sc_places (fun vs H Q E h => ?_) (fun cdv A outer s H vs Q E hr h => ?_)
  · obtain ⟨p, ns, ss, as, rfl, _⟩ := h
    rfl
  · obtain ⟨p, ns, ss, as, rfl, ⟨dx, a, b, c, d, hp, ha, hb, hc, hd⟩, ok, k⟩ := h
    refine ⟨_, PSs.nox <| pss_one (ps_ret (pe_fld (pv 0) rfl)), ?_⟩
    exact ⟨_, rfl, p, C, dx, _, _, rfl, hp, X.cl, X.p, pf_p _ _ _ _ _, k _ ⟨d, rfl, hd⟩⟩
theorem sc_text : FnScope ["self"] ["self"] (defScope sGt) := ⟨rfl, rfl, rfl, by decide +kernel, rfl, by decide +kernel, by decide +kernel⟩
theorem ok_gtext (F : FunP K "text" "Program.text" sGt f fd) (X : Txt K mg C) : FnOk P w K mg base CX0 1 f fd ["self"] (spGet K C fun ns ss as v H => v = .str (textS ns ss as)) := by
  refine F.ok sc_text (fun vs H Q E h => ?_) (fun cdv A outer s H vs Q E hr h => ?_)
  · obtain ⟨p, ns, ss, as, rfl, _⟩ := h
    rfl
  · obtain ⟨p, ns, ss, as, rfl, ⟨dx, a, b, c, d, hp, ha, hb, hc, hd⟩, ok, k⟩ := h
    refine ⟨_, PSs.nox <| pss_one (ps_ret (pe_fld (pv 0) rfl)), ?_⟩
    exact ⟨_, rfl, p, C, dx, _, _, rfl, hp, X.cl, X.t, pf_t _ _ _ _ _, k _ rfl⟩
/-! ### read -/
def spRd (K : PySem.W.Frag) (C : Addr) : Sp := fun vs H Q _ => ∃ (ns : List Str) (ss : List (Str × List Int)) (as : List Arm), vs = [.ref C, .str (textS ns ss as)] ∧ OkP ns ss as ∧ ∀ p H', Same H H' → ProgAt K C H' p ns ss as → Q (.ref p) H'
abbrev nRd : List Str := ["cls", "text", "names", "sayings", "branches", "program"]
theorem scRd : FnScope nRd ["cls", "text"] (defScope sRd) := ⟨rfl, rfl, rfl, by decide +kernel, rfl, by decide +kernel, by decide +kernel⟩
/-- how a program is made and shown -/
structure Mkr (K : PySem.W.Frag) (C fIni fStr : Addr) (dIni dStr : FuncData) : Prop where
  m : Mk K C fIni
  i : FunP K "__init__" "Program.__init__" sIni fIni dIni
  s : FunP K "__str__" "Program.__str__" sStr fStr dStr
  ds : Dun K C "__str__" fStr
theorem ok_rd {fIni fStr : Addr} {dIni dStr : FuncData} (F : FunP K "read" "Program.read" sRd f fd) (T : Mo mg) (X : Txt K mg C) (D : Defs K mg fI fN fF fS fU fCN fCS fCB fY fB fP fX fW fA fO dI dN dF dS dU dCN dCS dCB dY dB dP dX dW dA dO) (M : Mkr K C fIni fStr dIni dStr) : FnOk P w K mg base CX0 9 f fd ["cls", "text"] (spRd K C) := by
  have GI : FnOk P w K mg base CX0 7 fIni dIni ["self", "names", "sayings", "branches"] (spIni K C) := ok_ini M.i T X D
  have GS : FnOk P w K mg base CX0 1 fStr dStr ["self"] (spGet K C fun ns ss as v _ => v = .str (textS ns ss as)) := ok_str M.s T X
  have GA : FnOk P w K mg base CX0 3 fA dA ["text"] (spPa K) := ok_pa D.a T D.o D.go D.u D.gu
  have bI : Binds K dIni ["self", "names", "sayings", "branches"] [] := M.i.bindsN fun _ _ _ _ _ _ us hl => match us, hl with | [_, _, _, _], _ => rfl
  have bS : Binds K dStr ["self"] [] := M.s.bindsN fun _ _ _ _ _ _ us hl => match us, hl with | [_], _ => rfl
  have bA : Binds K dA ["text"] [] := D.a.bindsN fun _ _ _ _ _ _ us hl => match us, hl with | [_], _ => rfl
  refine F.ok scRd (fun vs H Q E h => ?_) (fun cdv A outer s H vs Q E hr h => ?_)
  · obtain ⟨ns, ss, as, rfl, _⟩ := h
    rfl
  · obtain ⟨ns, ss, as, rfl, ok, k⟩ := h
    have hr3 := hr.mono (show 3 ≤ 8 by decide)
    refine ⟨_, PSs.nox <| pss_cons (ps_if (pt_not (pt_val (pe_callB (call_isD (T := "str")) (by rfl) T.isi boot_isinstance (pa_cons (pv 1) (pa_cons (pe_bltn (v := .ty "str") (by rfl) T.str (by decide +kernel) rfl) pa_nil))))) (pss_one ps_never) pss_nil)
      <| pss_cons (ps_asg (pe_call GA hr3 (by rfl) D.ga D.a.kp bA .nil pass0 (pa_cons (pv 1) pa_nil)) (pg_tup (by rfl) (pgs_cons (pg_name (i := 2) scRd.nd rfl (.inl rfl)) (pgs_cons (pg_name (i := 3) scRd.nd rfl (.inl rfl)) (pgs_cons (pg_name (i := 4) scRd.nd rfl (.inl rfl)) pgs_nil)))))
      <| pss_cons (ps_try_thru0 (pss_one (ps_set (i := 5) scRd.nd rfl (.inl rfl) (pe_makeL (i := 0) M.m GI hr rfl (.inl rfl) bI .nil pass0 (pa_cons (pv 2) (pa_cons (pv 3) (pa_cons (pv 4) pa_nil)))))))
      <| pss_cons (ps_if (pt_cmpR op_ne (pe_callTy (call_strO GS hr3 bS M.ds) (by rfl) T.str (by decide +kernel) (pa_cons (pv 5) pa_nil)) (pv 1) (nomark _)) (pss_one ps_never) pss_nil)
      <| pss_one (ps_ret (pv 5)), ?_⟩
    refine ⟨_, rfl, _, .str (textS ns ss as), _, rfl, .inl (.str _), kit_str _, _, rfl, ?_⟩
    refine iteF ?_
    refine ⟨_, rfl, ns.length, ns, ss, as, rfl, ok.n.one, ok.t, fun p a b c H1 s1 hp ha hb hc => ?_⟩
    refine ⟨p, _, rfl, hp, rfl, _, _, rfl, _, _, rfl, _, _, rfl, rfl, ?_⟩
    refine ⟨rfl, _, rfl, _, rfl, _, rfl, fun x dx nx ndx nex => ?_⟩
    have s2 : Same H1 (upd (upd H1 dx (.own x)) x (.ins C dx [])) := fun q o e => by
      rw [upd_ne (ne_of_none e nx), upd_ne (ne_of_none e ndx)]
      exact e
    refine ⟨H1, x, dx, _, _, _, ns, ss, as, rfl, s2, nx, upd_same, ha, hb, hc, ok, fun H3 s3 g => ⟨rfl, ?_⟩⟩
    obtain ⟨dx3, a3, b3, c3, d3, hx3, rest⟩ := g
    refine ⟨_, rfl, x, dx3, _, rfl, hx3, x, ns, ss, as, rfl, ⟨dx3, a3, b3, c3, d3, hx3, rest⟩, ok, fun v ev => ⟨⟨_, ev⟩, ?_⟩⟩
    subst ev
    refine ⟨_, rfl, rfl, _, rfl, ?_⟩
    refine iteNS rfl ?_
    exact ⟨_, rfl, k x H3 (s1.trans s3) ⟨dx3, a3, b3, c3, d3, hx3, rest⟩⟩
end
end Pg
set_option Elab.async false
set_option linter.all false
set_option maxRecDepth 100000
set_option maxHeartbeats 4000000
namespace K5
open PySem PySem.Spec PyProof.Rows L2
abbrev top := Pg.top
abbrev sBegun : Stmt := top 36
abbrev sCast : Stmt := top 37
abbrev sAny : Stmt := top 38
abbrev FnP (K : PySem.W.Frag) (x : Str) (st : Stmt) (f : Addr) (fd : FuncData) : Prop := Pg.FnP K x st f fd
/-- a pail: what is left of the own number, the state, the count -/
structure Pail (H : Hp) (p : Addr) : Prop where
  ex : ∃ o st c : Int, H p = some (.lst [.int o, .int st, .int c]) ∧ 0 ≤ o ∧ 0 ≤ st ∧ st < 2147483648
/-- what was tracked stands, but perhaps at p -/
def But (p : Addr) (H H' : Hp) : Prop := ∀ b o, H b = some o → b ≠ p → H' b = some o
theorem But.refl {p : Addr} {H : Hp} : But p H H := fun _ _ e _ => e
theorem But.trans {p : Addr} {H H1 H2 : Hp} (a : But p H H1) (b : But p H1 H2) : But p H H2 := fun c o e n => b c o (a c o e n) n
def spCast : Sp := fun vs H Q _ => ∃ (p : Addr) (n : Int), vs = [.ref p, .int n] ∧ Pail H p ∧ 1 ≤ n ∧ n ≤ 1000000000 ∧ ∀ (r : Int) (H' : Hp), 0 ≤ r → r < n → Pail H' p → But p H H' → Q (.int r) H'
structure Bl (mg : Str → Option Value) : Prop where
  len : mg "len" = none
  divmod : mg "divmod" = none
  int : mg "int" = none
  abs : mg "abs" = none
section
variable {P : Program} {w : World} {K : PySem.W.Frag} {mg : Str → Option Value} {base : Heap} {f : Addr} {fd : FuncData}
theorem scCast : FnScope ["_law_pail", "_law_many", "_law_figure", "_law_state"] ["_law_pail", "_law_many"] (defScope sCast) := ⟨rfl, rfl, rfl, by decide +kernel, rfl, by decide +kernel, by decide +kernel⟩
theorem ok_cast (F : FnP K "_law_cast" sCast f fd) (T : Bl mg) : FnOk P w K mg base CX0 1 f fd ["_law_pail", "_law_many"] spCast := by
  refine F.ok scCast (fun vs H Q E h => ?_) (fun cdv A outer s H vs Q E hr h => ?_)
  · obtain ⟨p, n, rfl, _⟩ := h
    rfl
  · obtain ⟨p, n, rfl, ⟨o, st, c, hp, ho, h0, h1⟩, n1, n2, k⟩ := h
    refine ⟨_, PSs.nox (pss_cons (ps_if (pt_cmpR op_gt (pe_ix ix_list (pv 0) pe_int (fun _ _ => rfl)) pe_int (nomark _))
        (pss_cons (ps_asg (pe_callB call_divmod (by rfl) T.divmod (by decide +kernel) (pa_cons (pe_ix ix_list (pv 0) pe_int (fun _ _ => rfl)) (pa_cons (pv 1) pa_nil))) (pg_tup (by rfl) (pgs_cons (pg_sub (pv 0) pe_int set_list) (pgs_cons (pg_name (i := 2) scCast.nd rfl (.inl rfl)) pgs_nil))))
          (pss_one (ps_ret (pv 2)))) pss_nil)
      (pss_cons (ps_asg (pe_op op_add (pe_ix ix_list (pv 0) pe_int (fun _ _ => rfl)) pe_int) (pg_sub (pv 0) pe_int set_list))
      (pss_cons (ps_set (i := 3) scCast.nd rfl (.inl rfl) (pe_op op_mod (pe_callTy call_int1 (by rfl) T.int (by decide +kernel) (pa_cons (pe_op op_add (pe_op op_add (pe_op op_mul (pe_ix ix_list (pv 0) pe_int (fun _ _ => rfl)) (pe_op op_add pe_int (pe_op op_mul pe_int (pe_ix ix_list (pv 0) pe_int (fun _ _ => rfl))))) (pe_op op_mul pe_int (pe_ix ix_list (pv 0) pe_int (fun _ _ => rfl)))) pe_int) pa_nil)) pe_int))
      (pss_cons (ps_asg (pe_op op_mod (pe_callTy call_int1 (by rfl) T.int (by decide +kernel) (pa_cons (pe_op op_add (pe_op op_add (pe_op op_mul (pv 3) pe_int) (pe_op op_mul pe_int (pe_ix ix_list (pv 0) pe_int (fun _ _ => rfl)))) pe_int) pa_nil)) pe_int) (pg_sub (pv 0) pe_int set_list))
      (pss_one (ps_ret (pe_op op_mod (pe_callTy call_int1 (by rfl) T.int (by decide +kernel) (pa_cons (pe_op op_fdiv (pe_ix ix_list (pv 0) pe_int (fun _ _ => rfl)) pe_int) pa_nil)) (pv 1)))))))), ?_⟩
    refine ⟨_, rfl, p, _, _, _, rfl, rfl, SqL.of hp, rfl, _, _, rfl, rfl, _, rfl, ?_⟩
    refine ite2 (fun hc => ?_) (fun hc => ?_)
    · refine ⟨_, rfl, p, _, _, _, rfl, rfl, SqL.of hp, rfl, _, rfl, _, _, rfl, ⟨by omega, by omega⟩, fun q hq => ?_⟩
      have pq : p ≠ q := ne_of_none hp hq
      have ho' : 0 < o := of_decide_eq_true hc
      refine ⟨q, _, rfl, SqT.of upd_same, rfl, _, _, rfl, _, rfl, p, _, _, 0, rfl, rfl, (by rw [upd_ne pq]; exact hp), rfl, ?_⟩
      refine ⟨_, _, rfl, ?_⟩
      refine ⟨rfl, _, rfl, ?_⟩
      refine k (o % n) _ (Int.emod_nonneg _ (by omega)) (Int.emod_lt_of_pos _ (by omega)) ⟨o / n, st, c, upd_same, Int.ediv_nonneg (by omega) (by omega), h0, h1⟩ fun b u e nb => ?_
      rw [upd_ne nb, upd_ne (ne_of_none e hq)]
      exact e
    · have e1 : ∀ {x y z : Int}, (upd H p (.lst [.int x, .int y, .int z])) p = some (.lst [.int x, .int y, .int z]) := upd_same
      refine ⟨_, rfl, p, _, _, _, rfl, rfl, SqL.of hp, rfl, _, _, rfl, rfl, _, rfl, p, _, _, 2, rfl, rfl, hp, rfl, ?_⟩
      refine ⟨_, rfl, p, _, _, _, rfl, rfl, SqL.of upd_same, rfl, _, rfl, p, _, _, _, rfl, rfl, SqL.of upd_same, rfl, _, _, rfl, rfl, .inl ⟨by decide, by decide⟩, _, _, rfl, rfl, _, _, rfl, rfl, .inl ⟨by omega, by omega⟩, _, rfl, p, _, _, _, rfl, rfl, SqL.of upd_same, rfl, _, _, rfl, rfl, .inl ⟨by decide, by decide⟩, _, _, rfl, rfl, _, _, rfl, rfl, .inl ⟨_, rfl, ?_⟩⟩
      refine ⟨_, _, rfl, rfl, (by show (0 : Int) < 2147483629; decide), ?_⟩
      refine ⟨_, rfl, _, _, rfl, rfl, .inl ⟨by omega, by omega⟩, _, rfl, p, _, _, _, rfl, rfl, SqL.of upd_same, rfl, _, _, rfl, rfl, .inl ⟨by decide, by decide⟩, _, _, rfl, rfl, _, _, rfl, rfl, .inl ⟨_, rfl, _, _, rfl, rfl, (by show (0 : Int) < 2147483587; decide), ?_⟩⟩
      refine ⟨_, rfl, p, _, _, 1, rfl, rfl, upd_same, rfl, ?_⟩
      refine ⟨_, rfl, p, _, _, _, rfl, rfl, SqL.of upd_same, rfl, _, _, rfl, rfl, ⟨by decide, by decide⟩, .inl ⟨_, rfl, _, rfl, _, _, rfl, rfl, (by show (0 : Int) < n; omega), ?_⟩⟩
      refine k _ _ (Int.emod_nonneg _ (by omega)) (Int.emod_lt_of_pos _ (by omega)) ⟨o, _, _, upd_same, ho, Int.emod_nonneg _ (by decide), Int.lt_of_lt_of_le (Int.emod_lt_of_pos _ (by decide)) (by decide)⟩ fun b u e nb => ?_
      rw [upd_ne nb, upd_ne nb]
      exact e
/-! ### any of a list -/
def spAny (K : PySem.W.Frag) : Sp := fun vs H Q _ => ∃ (p l : Addr) (xs : List V), vs = [.ref p, .ref l] ∧ Pail H p ∧ H l = some (.lst xs) ∧ l ≠ p ∧ 0 < xs.length ∧ xs.length ≤ 1000 ∧
  ∀ (i : Nat) (x : V) (H' : Hp), xs[i]? = some x → Pail H' p → But p H H' → Q x H'
theorem scAny : FnScope ["_law_pail", "_law_some"] ["_law_pail", "_law_some"] (defScope sAny) := ⟨rfl, rfl, rfl, by decide +kernel, rfl, by decide +kernel, by decide +kernel⟩
theorem ok_any {fC : Addr} {fdC : FuncData} (F : FnP K "_law_any_of" sAny f fd) (T : Bl mg) (FC : FnP K "_law_cast" sCast fC fdC) (gC : mg "_law_cast" = some (.ref fC)) : FnOk P w K mg base CX0 2 f fd ["_law_pail", "_law_some"] (spAny K) := by
  have GC : FnOk P w K mg base CX0 1 fC fdC ["_law_pail", "_law_many"] spCast := ok_cast FC T
  have bC : Binds K fdC ["_law_pail", "_law_many"] [] := FC.bindsN fun _ _ _ _ _ _ us hl => match us, hl with | [_, _], _ => rfl
  refine F.ok scAny (fun vs H Q E h => ?_) (fun cdv A outer s H vs Q E hr h => ?_)
  · obtain ⟨p, l, xs, rfl, _⟩ := h
    rfl
  · obtain ⟨p, l, xs, rfl, hp, hl, lp, x0, x1, k⟩ := h
    refine ⟨_, PSs.nox (pss_one (ps_ret (pe_ix ix_list (pv 1) (pe_call GC hr (by rfl) gC FC.kp bC .nil pass0 (pa_cons (pv 0) (pa_cons (pe_callB call_len (by rfl) T.len PySem.boot_len (pa_cons (pv 1) pa_nil)) pa_nil))) (fun _ _ => rfl)))), ?_⟩
    refine ⟨_, rfl, _, rfl, _, rfl, _, xs.length, rfl, .inl ⟨_, SqL.of hl, rfl⟩, p, _, rfl, hp, by omega, by omega, fun r H' r0 r1 hp' bt => ?_⟩
    have hl' : H' l = some (.lst xs) := bt l _ hl lp
    have hi : r.toNat < xs.length := by omega
    have er : xs[r.toNat]? = some xs[r.toNat] := by simp [hi]
    have e2 : atI xs r = some xs[r.toNat] := by
      have := atI_nat er
      rwa [Int.toNat_of_nonneg r0] at this
    exact ⟨l, _, r, _, rfl, rfl, SqL.of hl', e2, k r.toNat _ H' er hp' bt⟩
/-! ### a pail begun -/
theorem mulB : ∀ {X : Cx}, OpR X (binaryOp .Mult) (rI (fun i j => IntMulOk i j) fun i j => .int (i * j)) := fun {X} => opI fun _ _ _ _ _ _ _ hc q => mul_int q hc
theorem bits_ok {i : Int} (h : Builtin.Int.intBits i ≤ 1048576) : IntMulOk i i := by
  unfold IntMulOk
  intro z
  simp only [Bool.and_eq_true, Builtin.Int.intTooBig, decide_eq_true_eq] at z
  have e : ((bitsLine : Nat) : Int) = 134217728 := by decide
  have z2 := z.2
  rw [e] at z2
  omega
def spBegun (K : PySem.W.Frag) : Sp := fun vs H Q _ => ∃ (a : Addr) (ns : List Int) (t : Nat), vs = [.ref a, .int t] ∧ SqL K H a (ns.map V.int) ∧ ns.length ≤ 63 ∧ (∀ z ∈ ns, Builtin.Int.intBits z ≤ 1048576) ∧ t ≤ 1000 ∧
  ∀ (p : Addr) (H' : Hp), Same H H' → H p = none → Pail H' p → Q (.ref p) H'
theorem scBegun : FnScope ["_law_script", "_law_turn", "_law_own", "_law_state", "_law_cell"] ["_law_script", "_law_turn"] (defScope sBegun) := ⟨rfl, rfl, rfl, by decide +kernel, rfl, by decide +kernel, by decide +kernel⟩
theorem cut_ints {ns : List Int} {lo hi : Option Int} {i : Nat} {x : V} (h : (cutV (ns.map V.int) lo hi)[i]? = some x) : ∃ z, x = V.int z := by
  have m := List.mem_of_getElem? h
  unfold cutV at m
  have m2 := List.mem_of_mem_drop (List.mem_of_mem_take m)
  obtain ⟨z, _, e⟩ := List.mem_map.mp m2
  exact ⟨z, e.symm⟩
theorem ok_begun (F : FnP K "_law_begun" sBegun f fd) (T : Bl mg) : FnOk P w K mg base CX0 1 f fd ["_law_script", "_law_turn"] (spBegun K) := by
  refine F.ok scBegun (fun vs H Q E h => ?_) (fun cdv A outer s H vs Q E hr h => ?_)
  · obtain ⟨a, ns, t, rfl, _⟩ := h
    rfl
  · obtain ⟨a, ns, t, rfl, hS, hn, hb, ht, k⟩ := h
    refine ⟨_, PSs.nox <| pss_cons (ps_set (i := 2) scBegun.nd rfl (.inl rfl) (pe_ifExp (pt_cmpR op_lt (pv 1) (pe_callB call_len (by rfl) T.len PySem.boot_len (pa_cons (pv 0) pa_nil)) (nomark _)) (pe_ix ix_list (pv 0) (pv 1) (fun _ _ => rfl)) pe_int))
      <| pss_cons (ps_set (i := 3) scBegun.nd rfl (.inl rfl) (pe_op op_add pe_int (pe_op op_mul pe_int (pv 1))))
      <| pss_cons (ps_for PassesOwn.never rfl (pi_list (pe_slice sl_list (pv 0) po_none (po_some pe_int))) (pg_name (i := 4) scBegun.nd rfl (.inl rfl))
        (pss_one (ps_set (i := 3) scBegun.nd rfl (.inl rfl) (pe_op op_mod (pe_callTy call_int1 (by rfl) T.int (by decide +kernel) (pa_cons (pe_op op_add (pe_op op_add (pe_op op_mul (pv 3) pe_int) (pe_op op_mul (pv 4) pe_int)) pe_int) pa_nil)) pe_int))))
      <| pss_one (ps_ret (pe_lst <| pa_cons (pe_ifExp (PW.pt (pw_or (pt_cmpR op_lt (pv 2) pe_int (nomark _)) (pw_or1 (pt_cmpR op_ge (pv 2) (pe_op op_pow pe_int pe_int) (nomark _))))) (pe_callB call_abs (by rfl) T.abs (by decide +kernel) (pa_cons (pv 2) pa_nil)) pe_int)
        <| pa_cons (pe_op op_mod (pe_callTy call_int1 (by rfl) T.int (by decide +kernel) (pa_cons (pe_op op_add (pe_op op_add (pe_op op_mul (pv 3) pe_int) (pe_op mulB (pv 2) (pv 2))) (pe_op op_mul pe_int (pv 1))) pa_nil)) pe_int) <| pa_cons pe_int pa_nil)), ?_⟩
    -- own
    refine ⟨_, rfl, _, rfl, _, (ns.map V.int).length, rfl, .inl ⟨_, hS, rfl⟩, _, _, rfl, rfl, _, rfl, ?_⟩
    refine ite2 (fun hc => ?_) (fun hc => ?_)
    · have hlt : t < ns.length := by
        have z : ((t : Nat) : Int) < ((ns.map V.int).length : Nat) := of_decide_eq_true hc
        rw [List.length_map] at z
        omega
      have er : (ns.map V.int)[t]? = some (V.int ns[t]) := by simp [hlt]
      have hob := hb ns[t] (List.getElem_mem hlt)
      refine ⟨_, rfl, _, rfl, a, _, _, _, rfl, rfl, hS, atI_nat er, ?_⟩
      refine ⟨_, rfl, _, _, rfl, rfl, .inl ⟨by decide, by decide⟩, _, _, rfl, rfl, ?_⟩
      refine ⟨_, rfl, 6, rfl, a, _, rfl, hS, fun q hq => ?_⟩
      refine ⟨q, rfl, ⟨_, SqL.of upd_same⟩, for_list (K := K) (a := q) (xs := cutV (ns.map V.int) none (some 6)) (fun i σ H2 => ∃ (own st : Int) (cell : Option V), σ = [some (.ref a), some (.int t), some (.int own), some (.int st), cell] ∧ Builtin.Int.intBits own ≤ 1048576 ∧ Same (upd H q (.lst (cutV (ns.map V.int) none (some 6)))) H2 ∧ 0 ≤ st ∧ st < 2147483648) ⟨_, _, none, rfl, hob, Same.refl _, by omega, by omega⟩ (fun i σ H2 _ ⟨_, _, _, _, _, s2, _⟩ => s2.seq (SqL.of upd_same)) ?_ ?_⟩
      · rintro i y σ H2 hi ⟨own, st, cell, rfl, hob, s2, h0, h1⟩
        obtain ⟨z, rfl⟩ := cut_ints hi
        refine ⟨_, rfl, _, _, rfl, rfl, .inl ⟨by omega, by omega⟩, _, rfl, _, _, rfl, rfl, .inr ⟨by decide, by decide⟩, _, _, rfl, rfl, _, _, rfl, rfl, .inl ⟨_, rfl, _, _, rfl, rfl, (by show (0 : Int) < 2147483629; decide), ?_⟩⟩
        exact ⟨own, _, _, rfl, hob, s2, Int.emod_nonneg _ (by decide), Int.lt_of_lt_of_le (Int.emod_lt_of_pos _ (by decide)) (by decide)⟩
      · rintro σ H2 ⟨own, st, cell, rfl, hob, s2, h0, h1⟩
        have sH : Same H H2 := fun b o e => s2 b o (by rw [upd_ne (ne_of_none e hq)]; exact e)
        refine ⟨_, rfl, _, _, rfl, rfl, _, rfl, ?_⟩
        refine ite2 (fun ho => ?_) (fun ho => ?_)
        · refine iteT ⟨_, rfl, _, rfl, ?_⟩
          refine ⟨_, rfl, _, _, rfl, rfl, .inl ⟨by omega, by omega⟩, _, rfl, _, rfl, _, _, rfl, rfl, bits_ok hob, _, _, rfl, rfl, _, rfl, _, _, rfl, rfl, .inl ⟨by decide, by decide⟩, _, _, rfl, rfl, .inl ⟨_, rfl, _, _, rfl, rfl, (by show (0 : Int) < 2147483629; decide), (by show 3 ≤ sizeLine; decide), fun r hr' => ?_⟩⟩
          refine k r _ (fun b o e => by rw [upd_ne (ne_of_none (sH b o e) hr')]; exact sH b o e) (sH.free hr') ⟨_, _, 0, upd_same, ?_, Int.emod_nonneg _ (by decide), Int.lt_of_lt_of_le (Int.emod_lt_of_pos _ (by decide)) (by decide)⟩
          have ho' : own < 0 := of_decide_eq_true ho
          rw [if_pos ho']
          omega
        · refine ⟨_, rfl, _, _, rfl, rfl, ⟨by decide, by decide, by decide⟩, _, _, rfl, rfl, _, rfl, ?_⟩
          refine ite2 (fun ho2 => ?_) (fun ho2 => ?_)
          · refine ⟨_, rfl, _, rfl, ?_⟩
            refine ⟨_, rfl, _, _, rfl, rfl, .inl ⟨by omega, by omega⟩, _, rfl, _, rfl, _, _, rfl, rfl, bits_ok hob, _, _, rfl, rfl, _, rfl, _, _, rfl, rfl, .inl ⟨by decide, by decide⟩, _, _, rfl, rfl, .inl ⟨_, rfl, _, _, rfl, rfl, (by show (0 : Int) < 2147483629; decide), (by show 3 ≤ sizeLine; decide), fun r hr' => ?_⟩⟩
            refine k r _ (fun b o e => by rw [upd_ne (ne_of_none (sH b o e) hr')]; exact sH b o e) (sH.free hr') ⟨_, _, 0, upd_same, ?_, Int.emod_nonneg _ (by decide), Int.lt_of_lt_of_le (Int.emod_lt_of_pos _ (by decide)) (by decide)⟩
            have ho' : ¬ own < 0 := fun z => ho (decide_eq_true z)
            rw [if_neg ho']
            omega
          · skip
            refine ⟨_, rfl, _, _, rfl, rfl, .inl ⟨by omega, by omega⟩, _, rfl, _, rfl, _, _, rfl, rfl, bits_ok hob, _, _, rfl, rfl, _, rfl, _, _, rfl, rfl, .inl ⟨by decide, by decide⟩, _, _, rfl, rfl, .inl ⟨_, rfl, _, _, rfl, rfl, (by show (0 : Int) < 2147483629; decide), (by show 3 ≤ sizeLine; decide), fun r hr' => ?_⟩⟩
            refine k r _ (fun b o e => by rw [upd_ne (ne_of_none (sH b o e) hr')]; exact sH b o e) (sH.free hr') ⟨_, _, 0, upd_same, ?_, Int.emod_nonneg _ (by decide), Int.lt_of_lt_of_le (Int.emod_lt_of_pos _ (by decide)) (by decide)⟩
            exact Int.le_refl 0
    · have hob : Builtin.Int.intBits 0 ≤ 1048576 := by decide
      refine ⟨_, rfl, _, _, rfl, rfl, .inl ⟨by decide, by decide⟩, _, _, rfl, rfl, ?_⟩
      refine ⟨_, rfl, 6, rfl, a, _, rfl, hS, fun q hq => ?_⟩
      refine ⟨q, rfl, ⟨_, SqL.of upd_same⟩, for_list (K := K) (a := q) (xs := cutV (ns.map V.int) none (some 6)) (fun i σ H2 => ∃ (own st : Int) (cell : Option V), σ = [some (.ref a), some (.int t), some (.int own), some (.int st), cell] ∧ Builtin.Int.intBits own ≤ 1048576 ∧ Same (upd H q (.lst (cutV (ns.map V.int) none (some 6)))) H2 ∧ 0 ≤ st ∧ st < 2147483648) ⟨_, _, none, rfl, hob, Same.refl _, by omega, by omega⟩ (fun i σ H2 _ ⟨_, _, _, _, _, s2, _⟩ => s2.seq (SqL.of upd_same)) ?_ ?_⟩
      · rintro i y σ H2 hi ⟨own, st, cell, rfl, hob, s2, h0, h1⟩
        obtain ⟨z, rfl⟩ := cut_ints hi
        refine ⟨_, rfl, _, _, rfl, rfl, .inl ⟨by omega, by omega⟩, _, rfl, _, _, rfl, rfl, .inr ⟨by decide, by decide⟩, _, _, rfl, rfl, _, _, rfl, rfl, .inl ⟨_, rfl, _, _, rfl, rfl, (by show (0 : Int) < 2147483629; decide), ?_⟩⟩
        exact ⟨own, _, _, rfl, hob, s2, Int.emod_nonneg _ (by decide), Int.lt_of_lt_of_le (Int.emod_lt_of_pos _ (by decide)) (by decide)⟩
      · rintro σ H2 ⟨own, st, cell, rfl, hob, s2, h0, h1⟩
        have sH : Same H H2 := fun b o e => s2 b o (by rw [upd_ne (ne_of_none e hq)]; exact e)
        refine ⟨_, rfl, _, _, rfl, rfl, _, rfl, ?_⟩
        refine ite2 (fun ho => ?_) (fun ho => ?_)
        · refine iteT ⟨_, rfl, _, rfl, ?_⟩
          refine ⟨_, rfl, _, _, rfl, rfl, .inl ⟨by omega, by omega⟩, _, rfl, _, rfl, _, _, rfl, rfl, bits_ok hob, _, _, rfl, rfl, _, rfl, _, _, rfl, rfl, .inl ⟨by decide, by decide⟩, _, _, rfl, rfl, .inl ⟨_, rfl, _, _, rfl, rfl, (by show (0 : Int) < 2147483629; decide), (by show 3 ≤ sizeLine; decide), fun r hr' => ?_⟩⟩
          refine k r _ (fun b o e => by rw [upd_ne (ne_of_none (sH b o e) hr')]; exact sH b o e) (sH.free hr') ⟨_, _, 0, upd_same, ?_, Int.emod_nonneg _ (by decide), Int.lt_of_lt_of_le (Int.emod_lt_of_pos _ (by decide)) (by decide)⟩
          have ho' : own < 0 := of_decide_eq_true ho
          rw [if_pos ho']
          omega
        · refine ⟨_, rfl, _, _, rfl, rfl, ⟨by decide, by decide, by decide⟩, _, _, rfl, rfl, _, rfl, ?_⟩
          refine ite2 (fun ho2 => ?_) (fun ho2 => ?_)
          · refine ⟨_, rfl, _, rfl, ?_⟩
            refine ⟨_, rfl, _, _, rfl, rfl, .inl ⟨by omega, by omega⟩, _, rfl, _, rfl, _, _, rfl, rfl, bits_ok hob, _, _, rfl, rfl, _, rfl, _, _, rfl, rfl, .inl ⟨by decide, by decide⟩, _, _, rfl, rfl, .inl ⟨_, rfl, _, _, rfl, rfl, (by show (0 : Int) < 2147483629; decide), (by show 3 ≤ sizeLine; decide), fun r hr' => ?_⟩⟩
            refine k r _ (fun b o e => by rw [upd_ne (ne_of_none (sH b o e) hr')]; exact sH b o e) (sH.free hr') ⟨_, _, 0, upd_same, ?_, Int.emod_nonneg _ (by decide), Int.lt_of_lt_of_le (Int.emod_lt_of_pos _ (by decide)) (by decide)⟩
            have ho' : ¬ own < 0 := fun z => ho (decide_eq_true z)
            rw [if_neg ho']
            omega
          · skip
            refine ⟨_, rfl, _, _, rfl, rfl, .inl ⟨by omega, by omega⟩, _, rfl, _, rfl, _, _, rfl, rfl, bits_ok hob, _, _, rfl, rfl, _, rfl, _, _, rfl, rfl, .inl ⟨by decide, by decide⟩, _, _, rfl, rfl, .inl ⟨_, rfl, _, _, rfl, rfl, (by show (0 : Int) < 2147483629; decide), (by show 3 ≤ sizeLine; decide), fun r hr' => ?_⟩⟩
            refine k r _ (fun b o e => by rw [upd_ne (ne_of_none (sH b o e) hr')]; exact sH b o e) (sH.free hr') ⟨_, _, 0, upd_same, ?_, Int.emod_nonneg _ (by decide), Int.lt_of_lt_of_le (Int.emod_lt_of_pos _ (by decide)) (by decide)⟩
            exact Int.le_refl 0
end
end K5
set_option Elab.async false
set_option linter.all false
set_option maxRecDepth 100000
set_option maxHeartbeats 8000000
namespace K5
open PySem PySem.Spec PyProof.Rows L2 Gd Rl
open Pg (nolD nolAll nameS fD OkF cut_take)
abbrev sTags : Stmt := top 39
abbrev sWide : Stmt := top 40
abbrev sForm : Stmt := top 41
/-! ### what is no list stays -/
def Nl (H H' : Hp) : Prop := ∀ b o, H b = some o → (∀ xs, o ≠ .lst xs) → H' b = some o
theorem Nl.refl {H : Hp} : Nl H H := fun _ _ e _ => e
theorem Nl.trans {H H1 H2 : Hp} (a : Nl H H1) (b : Nl H1 H2) : Nl H H2 := fun c o e n => b c o (a c o e n) n
theorem nl_same {H H' : Hp} (s : Same H H') : Nl H H' := fun b o e _ => s b o e
theorem But.nl {p : Addr} {H H' : Hp} (b : But p H H') (hp : Pail H p) : Nl H H' := fun c o e n => b c o e fun q => by
  obtain ⟨o1, st, k, h, _⟩ := hp
  rw [q, h] at e
  cases e
  exact n _ rfl
theorem nl_upd {H : Hp} {l : Addr} {X Y : List V} (h : H l = some (.lst X)) : Nl H (upd H l (.lst Y)) := fun b o e n => by
  rw [upd_ne (fun q => by rw [q, h] at e; cases e; exact n _ rfl)]
  exact e
theorem nl_del {H : Hp} {l : Addr} {X : List V} (h : H l = some (.lst X)) : Nl H (delH H l) := fun b o e n => by
  rw [delH_ne (fun q => by rw [q, h] at e; cases e; exact n _ rfl)]
  exact e
theorem seqT_nl {K : PySem.W.Frag} {H H' : Hp} {a : Addr} {xs : List V} (s : Nl H H') (h : SqT K H a xs) : SqT K H' a xs := by
  rcases h with (h | ⟨o, h⟩) | h
  · exact .inl (.inl (s _ _ h fun _ q => nomatch q))
  · exact .inl (.inr ⟨o, s _ _ h fun _ q => nomatch q⟩)
  · exact .inr h
mutual
theorem dp_nl {K : PySem.W.Frag} {H H' : Hp} (s : Nl H H') : ∀ (d : PyData) {v : V}, nolD d = true → Dp K H v d → Dp K H' v d
  | .none, _, _, h => by cases h; exact .non
  | .bool b, _, _, h => by cases h; exact .bl b
  | .int i, _, _, h => by cases h; exact .int i
  | .str z, _, _, h => by cases h; exact .str z
  | .list ds, _, n, _ => by cases n
  | .tuple ds, _, n, h => by
    cases h with
    | tup hs ha => exact .tup (seqT_nl s hs) (dp_nlAll s ds (by rw [nolD] at n; exact n) ha)
  | .dict _, _, _, h => by cases h
theorem dp_nlAll {K : PySem.W.Frag} {H H' : Hp} (s : Nl H H') : ∀ (ds : List PyData) {vs : List V}, nolAll ds = true → DpAll K H vs ds → DpAll K H' vs ds
  | [], _, _, h => by cases h; exact .nil
  | d :: ds, _, n, h => by
    rw [nolAll, Bool.and_eq_true] at n
    cases h with
    | cons h1 h2 => exact .cons (dp_nl s d n.1 h1) (dp_nlAll s ds n.2 h2)
end
theorem Pail.same {H H' : Hp} {p : Addr} (h : Pail H p) (e : Same H H') : Pail H' p := by
  obtain ⟨o, st, c, h1, h2⟩ := h
  exact ⟨o, st, c, e _ _ h1, h2⟩
theorem Pail.ne {H : Hp} {p l : Addr} (h : Pail H p) (n : H l = none) : p ≠ l := by
  obtain ⟨o, st, c, h1, h2⟩ := h
  exact ne_of_none h1 n
theorem Pail.upd {H : Hp} {p l : Addr} {o : HO} (h : Pail H p) (n : p ≠ l) : Pail (upd H l o) p := by
  obtain ⟨o1, st, c, h1, h2⟩ := h
  exact ⟨o1, st, c, by rw [upd_ne n]; exact h1, h2⟩
theorem but_same {p : Addr} {H H' : Hp} (s : Same H H') : But p H H' := fun b o e _ => s b o e
section
variable {P : Program} {w : World} {K : PySem.W.Frag} {mg : Str → Option Value} {base : Heap} {f : Addr} {fd : FuncData}
/-! ### names drawn -/
def menuS : List Str := ["x", "y", "a", "b", "k9", "vars", "say", "then", "test", "branch", "abcdefgh", "n", "z0000000", "undo"]
def tagsS (k : Nat) : List Str := (menuS.drop k ++ menuS.take k).take 6
structure OkG (l : List Str) : Prop where
  six : l.length = 6
  nd : l.Nodup
  nm : ∀ z ∈ l, nameS z = true
def okGb (l : List Str) : Bool := decide (l.length = 6) && decide l.Nodup && l.all nameS
theorem okG_of {l : List Str} (h : okGb l = true) : OkG l := by
  unfold okGb at h
  simp only [Bool.and_eq_true, decide_eq_true_eq] at h
  exact ⟨h.1.1, h.1.2, List.all_eq_true.mp h.2⟩
theorem tags_all : ((List.range 14).all fun k => okGb (tagsS k)) = true := by decide +kernel
theorem tags_ok {k : Nat} (h : k < 14) : OkG (tagsS k) := okG_of (List.all_eq_true.mp tags_all k (List.mem_range.mpr h))
def spTags : Sp := fun vs H Q _ => ∃ p : Addr, vs = [.ref p, .int 6] ∧ Pail H p ∧ ∀ (q : Addr) (l : List Str) (H' : Hp), OkG l → H q = none → H' q = some (.lst (l.map V.str)) → Pail H' p → But p H H' → Q (.ref q) H'
theorem scTags : FnScope ["_law_pail", "_law_many", "_law_menu", "_law_at"] ["_law_pail", "_law_many"] (defScope sTags) := ⟨rfl, rfl, rfl, by decide +kernel, rfl, by decide +kernel, by decide +kernel⟩
theorem ok_tags {fC : Addr} {dC : FuncData} (F : FnP K "_law_tags" sTags f fd) (T : Bl mg) (FC : FnP K "_law_cast" sCast fC dC) (gC : mg "_law_cast" = some (.ref fC)) : FnOk P w K mg base CX0 2 f fd ["_law_pail", "_law_many"] spTags := by
  have GC : FnOk P w K mg base CX0 1 fC dC ["_law_pail", "_law_many"] spCast := ok_cast FC T
  have bC : Binds K dC ["_law_pail", "_law_many"] [] := FC.bindsN fun _ _ _ _ _ _ us hl => match us, hl with | [_, _], _ => rfl
  refine F.ok scTags (fun vs H Q E h => ?_) (fun cdv A outer s H vs Q E hr h => ?_)
  · obtain ⟨p, rfl, _⟩ := h
    rfl
  · obtain ⟨p, rfl, hp, k⟩ := h
    refine ⟨_, PSs.nox <| pss_cons (ps_set (i := 2) scTags.nd rfl (.inl rfl) (pe_lstR <| pa_cons pe_str <| pa_cons pe_str <| pa_cons pe_str <| pa_cons pe_str <| pa_cons pe_str <| pa_cons pe_str <| pa_cons pe_str <| pa_cons pe_str <| pa_cons pe_str <| pa_cons pe_str <| pa_cons pe_str <| pa_cons pe_str <| pa_cons pe_str <| pa_cons pe_str pa_nil))
      <| pss_cons (ps_set (i := 3) scTags.nd rfl (.inl rfl) (pe_call GC hr (by rfl) gC FC.kp bC .nil pass0 (pa_cons (pv 0) (pa_cons (pe_callB call_len (by rfl) T.len PySem.boot_len (pa_cons (pv 2) pa_nil)) pa_nil))))
      <| pss_one (ps_ret (pe_slice (r := rSlR K) sl_listR (pe_op op_catR (pe_slice (r := rSlR K) sl_listR (pv 2) (po_some (pv 3)) po_none) (pe_slice (r := rSlR K) sl_listR (pv 2) po_none (po_some (pv 3)))) po_none (po_some (pv 1)))), ?_⟩
    refine ⟨(show 14 ≤ 1000 by decide), fun m H1 n1 => ?_⟩
    have e1 : H1 m = some (.lst (menuS.map V.str)) := n1.2.1
    have hp1 := hp.same n1.2.2
    refine ⟨_, rfl, _, rfl, _, 14, rfl, .inl ⟨_, SqL.of e1, rfl⟩, p, _, rfl, hp1, by decide, by decide, fun r H2 r0 r1 hp2 b2 => ?_⟩
    obtain ⟨j, rfl⟩ := Int.eq_ofNat_of_zero_le r0
    have hj : j < 14 := by omega
    have nm : m ≠ p := (hp.ne n1.1).symm
    have e2 := b2 m _ e1 nm
    have lm : (menuS.map V.str).length = 14 := rfl
    have c1 : cutV (menuS.map V.str) (some (j : Int)) none = (menuS.drop j).map V.str := by
      unfold cutV
      rw [HT.sIx_nat, HT.sIx_none, lm, Nat.min_eq_left (by omega), List.map_drop]
      apply List.take_of_length_le
      rw [List.length_drop, lm]
      exact Nat.le_refl _
    have c2 : cutV (menuS.map V.str) none (some (j : Int)) = (menuS.take j).map V.str := by
      rw [cut_take (by omega), List.map_take]
    refine ⟨_, rfl, _, rfl, _, rfl, m, _, rfl, SqL.of e2, fun q1 H3 n3 => ?_⟩
    refine ⟨_, rfl, _, rfl, _, rfl, m, _, rfl, SqL.of (n3.2.2 _ _ e2), fun q2 H4 n4 => ?_⟩
    rw [c1] at n3
    rw [c2] at n4
    have l1 : (menuS.drop j).length ≤ 14 := by
      rw [List.length_drop]
      exact Nat.sub_le _ _
    have l2 : (menuS.take j).length ≤ 14 := by
      rw [List.length_take]
      exact Nat.min_le_right _ _
    refine ⟨q1, q2, _, _, rfl, rfl, n4.2.2 _ _ n3.2.1, n4.2.1, by rw [List.length_map, List.length_map]; omega, fun q3 H5 n5 => ?_⟩
    refine ⟨_, rfl, _, rfl, q3, _, rfl, SqL.of n5.2.1, fun q4 H6 n6 => ?_⟩
    have c3 : cutV ((menuS.drop j).map V.str ++ (menuS.take j).map V.str) none (some 6) = (tagsS j).map V.str := by
      rw [← List.map_append, show (6 : Int) = ((6 : Nat) : Int) from rfl, cut_take, ← List.map_take]
      · rfl
      · rw [List.length_map, List.length_append, List.length_drop, List.length_take]
        show 6 ≤ (14 - j) + min j 14
        omega
    rw [c3] at n6
    have s26 := n3.2.2.trans (n4.2.2.trans (n5.2.2.trans n6.2.2))
    refine k q4 _ H6 (tags_ok hj) ?_ n6.2.1 (hp2.same s26) ((but_same n1.2.2).trans (b2.trans (but_same s26)))
    cases e : H q4 with
    | none => rfl
    | some o =>
      by_cases hq : q4 = p
      · obtain ⟨o1, st, c, h1, _⟩ := hp2.same (n3.2.2.trans (n4.2.2.trans n5.2.2))
        rw [← hq, n6.1] at h1
        cases h1
      · have z := (n3.2.2.trans (n4.2.2.trans n5.2.2)) _ _ (b2 _ _ (n1.2.2 _ _ e) hq)
        rw [n6.1] at z
        cases z
/-! ### numbers drawn -/
def spWide : Sp := fun vs H Q _ => ∃ p : Addr, vs = [.ref p] ∧ Pail H p ∧ ∀ (i : Int) (H' : Hp), (-1000000 ≤ i ∧ i ≤ 1000000) → Pail H' p → But p H H' → Q (.int i) H'
theorem scWide : FnScope ["_law_pail", "_law_way"] ["_law_pail"] (defScope sWide) := ⟨rfl, rfl, rfl, by decide +kernel, rfl, by decide +kernel, by decide +kernel⟩
theorem ok_wide {fC fA : Addr} {dC dA : FuncData} (F : FnP K "_law_wide" sWide f fd) (T : Bl mg) (FC : FnP K "_law_cast" sCast fC dC) (gC : mg "_law_cast" = some (.ref fC)) (FA : FnP K "_law_any_of" sAny fA dA) (gA : mg "_law_any_of" = some (.ref fA)) : FnOk P w K mg base CX0 3 f fd ["_law_pail"] spWide := by
  have GC : FnOk P w K mg base CX0 1 fC dC ["_law_pail", "_law_many"] spCast := ok_cast FC T
  have bC : Binds K dC ["_law_pail", "_law_many"] [] := FC.bindsN fun _ _ _ _ _ _ us hl => match us, hl with | [_, _], _ => rfl
  have GA : FnOk P w K mg base CX0 2 fA dA ["_law_pail", "_law_some"] (spAny K) := ok_any FA T FC gC
  have bA : Binds K dA ["_law_pail", "_law_some"] [] := FA.bindsN fun _ _ _ _ _ _ us hl => match us, hl with | [_, _], _ => rfl
  refine F.ok scWide (fun vs H Q E h => ?_) (fun cdv A outer s H vs Q E hr h => ?_)
  · obtain ⟨p, rfl, _⟩ := h
    rfl
  · obtain ⟨p, rfl, hp, k⟩ := h
    have hr1 := hr.mono (show 1 ≤ 2 by decide)
    refine ⟨_, PSs.nox <| pss_cons (ps_set (i := 1) scWide.nd rfl (.inl rfl) (pe_call GC hr1 (by rfl) gC FC.kp bC .nil pass0 (pa_cons (pv 0) (pa_cons pe_int pa_nil))))
      <| pss_cons (ps_if (pt_cmpR op_lt (pv 1) pe_int (nomark _)) (pss_one (ps_ret (pe_op op_sub (pe_call GC hr1 (by rfl) gC FC.kp bC .nil pass0 (pa_cons (pv 0) (pa_cons pe_int pa_nil))) pe_int))) pss_nil)
      <| pss_cons (ps_if (pt_cmpR op_eq (pv 1) pe_int (nomark _)) (pss_one (ps_ret (pe_call GA hr (by rfl) gA FA.kp bA .nil pass0 (pa_cons (pv 0) (pa_cons (pe_lstR <| pa_cons (pe_op op_pow pe_int pe_int) <| pa_cons (pe_un un_neg (pe_op op_pow pe_int pe_int)) <| pa_cons pe_int <| pa_cons pe_int pa_nil) pa_nil))))) pss_nil)
      <| pss_one (ps_ret (pe_ifExp (pt_cmpR op_eq (pv 1) pe_int (nomark _)) (pe_op op_sub (pe_call GC hr1 (by rfl) gC FC.kp bC .nil pass0 (pa_cons (pv 0) (pa_cons pe_int pa_nil))) pe_int)
          (pe_op op_sub (pe_call GC hr1 (by rfl) gC FC.kp bC .nil pass0 (pa_cons (pv 0) (pa_cons (pe_op op_add (pe_op op_mul pe_int (pe_op op_pow pe_int pe_int)) pe_int) pa_nil))) (pe_op op_pow pe_int pe_int)))), ?_⟩
    refine ⟨_, rfl, p, _, rfl, hp, by decide, by decide, fun r H1 r0 r1 hp1 b1 => ?_⟩
    refine ⟨_, rfl, _, _, rfl, rfl, _, rfl, ?_⟩
    refine ite2 (fun hc => ?_) (fun hc => ?_)
    · refine ⟨_, rfl, p, _, rfl, hp1, by decide, by decide, fun r2 H2 r20 r21 hp2 b2 => ?_⟩
      exact ⟨_, _, rfl, rfl, k _ H2 (by omega) hp2 (b1.trans b2)⟩
    · refine ⟨_, rfl, rfl, _, rfl, ?_⟩
      refine ite2 (fun hc2 => ?_) (fun hc2 => ?_)
      · refine ⟨_, rfl, _, _, rfl, rfl, ⟨by decide, by decide, by decide⟩, _, _, rfl, rfl, ⟨by decide, by decide, by decide⟩, _, rfl, (show 4 ≤ 1000 by decide), fun l H2 n2 => ?_⟩
        have hp2 := hp1.same n2.2.2
        refine ⟨p, l, _, rfl, hp2, n2.2.1, (hp1.ne n2.1).symm, (show 0 < 4 by decide), (show 4 ≤ 1000 by decide), fun i x H3 ex hp3 b3 => ?_⟩
        have hb := b1.trans ((but_same n2.2.2).trans b3)
        match i, ex with
        | 0, ex =>
          cases Option.some.inj ex
          exact k _ H3 (by decide) hp3 hb
        | 1, ex =>
          cases Option.some.inj ex
          exact k _ H3 (by decide) hp3 hb
        | 2, ex =>
          cases Option.some.inj ex
          exact k _ H3 (by decide) hp3 hb
        | 3, ex =>
          cases Option.some.inj ex
          exact k _ H3 (by decide) hp3 hb
        | i + 4, ex => simp at ex
      · refine ⟨_, rfl, rfl, _, rfl, ?_⟩
        refine ite2 (fun hc3 => ?_) (fun hc3 => ?_)
        · refine ⟨_, rfl, p, _, rfl, hp1, by decide, by decide, fun r2 H2 r20 r21 hp2 b2 => ?_⟩
          exact ⟨_, _, rfl, rfl, k _ H2 (by omega) hp2 (b1.trans b2)⟩
        · refine ⟨_, rfl, _, _, rfl, rfl, ⟨by decide, by decide, by decide⟩, _, _, rfl, rfl, .inl ⟨by decide, by decide⟩, _, _, rfl, rfl, p, _, rfl, hp1, by decide, by decide, fun r2 H2 r20 r21 hp2 b2 => ?_⟩
          refine ⟨_, _, rfl, rfl, ⟨by decide, by decide, by decide⟩, _, _, rfl, rfl, ?_⟩
          have r22 : r2 < 2000001 := r21
          have e6 : ((10 : Int) ^ (6 : Int).toNat) = 1000000 := by decide
          rw [e6]
          exact k _ H2 (by omega) hp2 (b1.trans b2)
/-! ### a form drawn -/
structure RangeB (mg : Str → Option Value) : Prop where
  range : mg "range" = none
  tuple : mg "tuple" = none
def spForm (K : PySem.W.Frag) : Sp := fun vs H Q _ => ∃ (p : Addr) (m : Nat), vs = [.ref p, .int m] ∧ m ≤ 3 ∧ Pail H p ∧ ∀ (v : V) (g : List Int) (H' : Hp), g.length = m + 1 → (∀ i ∈ g, -1000000 ≤ i ∧ i ≤ 1000000) → Dp K H' v (fD g) → Pail H' p → But p H H' → Q v H'
theorem scForm : FnScope ["_law_pail", "_law_size", "_law_k"] ["_law_pail", "_law_size"] (defScope sForm) := ⟨rfl, rfl, rfl, by decide +kernel, rfl, by decide +kernel, by decide +kernel⟩
theorem ok_form {fC fA fW : Addr} {dC dA dW : FuncData} (F : FnP K "_law_form" sForm f fd) (T : Bl mg) (R : RangeB mg) (FC : FnP K "_law_cast" sCast fC dC) (gC : mg "_law_cast" = some (.ref fC)) (FA : FnP K "_law_any_of" sAny fA dA) (gA : mg "_law_any_of" = some (.ref fA)) (FW : FnP K "_law_wide" sWide fW dW) (gW : mg "_law_wide" = some (.ref fW)) : FnOk P w K mg base CX0 4 f fd ["_law_pail", "_law_size"] (spForm K) := by
  have GW : FnOk P w K mg base CX0 3 fW dW ["_law_pail"] spWide := ok_wide FW T FC gC FA gA
  have bW : Binds K dW ["_law_pail"] [] := FW.bindsN fun _ _ _ _ _ _ us hl => match us, hl with | [_], _ => rfl
  refine F.ok scForm (fun vs H Q E h => ?_) (fun cdv A outer s H vs Q E hr h => ?_)
  · obtain ⟨p, m, rfl, _⟩ := h
    rfl
  · obtain ⟨p, m, rfl, m3, hp, k⟩ := h
    refine ⟨_, PSs.nox <| pss_one (ps_ret (pe_callTy call_tuple_of (by rfl) R.tuple (by decide +kernel) (pa_cons (pe_lc (own := [("_law_k", 2)]) (g := gName 2) (tt := tYes) rfl scForm.nd (pi_range1 (by rfl) R.range (pa_cons (pe_op op_add (pv 1) pe_int) pa_nil)) (blkOk_by (N := ["_law_pail", "_law_size", "_law_k"]) (sc := defScope sForm) (by decide +kernel)) (fun _ _ _ _ _ => pg_name (i := 2) scForm.nd rfl (Or.inl rfl)) (fun _ _ _ _ _ => pts_nil)
        (fun _ _ _ _ _ => pe_call GW hr (by rfl) gW FW.kp bW .nil pass0 (pa_cons (pv 0) pa_nil))) pa_nil))), ?_⟩
    have em : ((m : Int) + 1).toNat = m + 1 := by omega
    refine ⟨_, rfl, _, _, rfl, rfl, _, rfl, by omega, by omega, ?_⟩
    intro D hD
    refine lc_range (lo := 0) (n := ((m : Int) + 1).toNat) (fun i H' => ∃ g : List Int, g.length = i ∧ (∀ i ∈ g, -1000000 ≤ i ∧ i ≤ 1000000) ∧ H' D = some (.lst (g.map V.int)) ∧ Pail H' p ∧ But p H H') ⟨[], rfl, (fun _ h => by cases h), upd_same, hp.upd (hp.ne hD), but_same (same_new hD)⟩ ?_ ?_
    · rintro i H2 hi ⟨g, lg, hg, hD2, hp2, b2⟩
      refine ⟨rfl, _, rfl, p, rfl, hp2, fun n H3 hn hp3 b3 => ?_⟩
      have hD3 := b3 D _ hD2 (hp.ne hD).symm
      refine ⟨_, hD3, small1000 (by rw [List.length_map]; omega), g ++ [n], by rw [List.length_append, lg]; rfl, fun z hz => ?_, ?_, hp3.upd (hp.ne hD), ?_⟩
      · rcases List.mem_append.mp hz with hz | hz
        · exact hg z hz
        · rw [List.mem_singleton.mp hz]
          exact hn
      · rw [upd_same, List.map_append]
        rfl
      · intro b o e nb
        rw [upd_ne (ne_of_none e hD)]
        exact b3 b o (b2 b o e nb) nb
    · rintro H2 ⟨g, lg, hg, hD2, hp2, b2⟩
      refine ⟨D, _, rfl, .inl ⟨SqL.of hD2, fun q nq => ?_⟩⟩
      exact k _ g _ (by omega) hg (Pg.dp_ints (SqT.of upd_same)) (hp2.upd (hp2.ne nq)) (b2.trans (but_same (same_new nq)))
end
end K5
set_option Elab.async false
set_option linter.all false
set_option maxRecDepth 100000
set_option maxHeartbeats 8000000
namespace Pg
open PySem PySem.Spec PyProof.Rows L2 Gd Rl
theorem dp_len' {K : PySem.W.Frag} {H : Hp} {vs : List V} {ds : List PyData} (h : DpAll K H vs ds) : vs.length = ds.length := dp_len h
theorem dp_sameD {K : PySem.W.Frag} {H H' : Hp} {v : V} {d : PyData} (s : Same H H') (h : Dp K H v d) : Dp K H' v d := dp_same s d h
theorem dp_sameAllD {K : PySem.W.Frag} {H H' : Hp} {vs : List V} {ds : List PyData} (s : Same H H') (h : DpAll K H vs ds) : DpAll K H' vs ds := dp_sameAll s ds h
theorem nol_says (ss : List (Str × List Int)) : nolD (saysD ss) = true := by
  unfold saysD
  rw [nolD]
  exact nol_map nol_say ss
end Pg
namespace K5
open PySem PySem.Spec PyProof.Rows L2 Gd Rl
open Pg (nolD nolAll nameS nameB fD OkF cut_take Arm sayD armD namesD saysD armsD placesS standS firsts firstB OkN OkS OkA OkP ArmOk formB formsB sayB numB nol_map nol_f nol_fs nol_say nol_arm dp_snoc list_is strs_at iteDN iteDY)
abbrev sParts : Stmt := top 42
/-! ### few places -/
theorem pigeon : ∀ {xs ys : List Str}, xs.Nodup → (∀ z ∈ xs, z ∈ ys) → xs.length ≤ ys.length
  | [], _, _, _ => Nat.zero_le _
  | x :: xs, ys, nd, h => by
    have hx := h x (List.mem_cons_self ..)
    have nd2 := List.nodup_cons.mp nd
    have ih := pigeon (ys := ys.erase x) nd2.2 fun z hz => (List.mem_erase_of_ne (fun e : z = x => nd2.1 (by rw [← e]; exact hz))).mpr (h z (List.mem_cons_of_mem _ hz))
    rw [List.length_erase_of_mem hx] at ih
    have := List.length_pos_of_mem hx
    rw [List.length_cons]
    omega
theorem firsts_mem {l : List Str} : ∀ z ∈ firsts l, z ∈ l := by
  intro z hz
  unfold firsts at hz
  obtain ⟨i, hi, rfl⟩ := List.mem_map.mp hz
  have hi2 := List.mem_range.mp (List.mem_filter.mp hi).1
  rw [List.getD_eq_getElem?_getD, List.getElem?_eq_getElem hi2]
  exact List.getElem_mem hi2
theorem firsts_nodup (l : List Str) : (firsts l).Nodup := by
  unfold firsts
  rw [List.Nodup, List.pairwise_map]
  refine List.Pairwise.imp_of_mem (fun {i j} hi hj hlt => ?_) (List.Pairwise.filter _ List.pairwise_lt_range)
  have hj2 := List.mem_range.mp (List.mem_filter.mp hj).1
  have hf := (List.mem_filter.mp hj).2
  intro e
  unfold firstB at hf
  rw [← e] at hf
  have hm : l.getD i "" ∈ l.take j := by
    have hi2 : i < l.length := by omega
    rw [List.getD_eq_getElem?_getD, List.getElem?_eq_getElem hi2]
    show l[i] ∈ l.take j
    refine List.mem_of_getElem? (i := i) ?_
    rw [List.getElem?_take_of_lt hlt, List.getElem?_eq_getElem hi2]
  have hc : (l.take j).contains (l.getD i "") = true := by simpa using hm
  rw [hc] at hf
  cases hf
theorem places_few {sp : List Str} {ss : List (Str × List Int)} {as : List Arm} (h1 : ∀ s ∈ ss, s.1 ∈ sp) (h2 : ∀ a ∈ as, a.src ∈ sp ∧ a.tgt ∈ sp) : (placesS ss as).length ≤ sp.length := by
  refine pigeon (firsts_nodup _) fun z hz => ?_
  have hm := firsts_mem z hz
  unfold standS at hm
  rcases List.mem_append.mp hm with hm | hm
  · obtain ⟨s, hs, rfl⟩ := List.mem_map.mp hm
    exact h1 s hs
  · obtain ⟨q, hq, hm⟩ := List.mem_flatten.mp hm
    obtain ⟨a, ha, rfl⟩ := List.mem_map.mp hq
    have ha2 := h2 a ha
    rcases List.mem_cons.mp hm with rfl | hm
    · exact ha2.1
    · rw [List.mem_singleton.mp hm]
      exact ha2.2
/-! ### right forms -/
structure FmOk (m : Nat) (g : List Int) : Prop where
  len : g.length = m + 1
  num : ∀ i ∈ g, -1000000 ≤ i ∧ i ≤ 1000000
theorem form_of {m : Nat} {g : List Int} (h : FmOk m g) : formB m (fD g) = true := by
  show (decide ((g.map PyData.int).length = m + 1) && (g.map PyData.int).all numB) = true
  rw [Bool.and_eq_true, decide_eq_true_eq, List.length_map, List.all_map, List.all_eq_true]
  refine ⟨h.len, fun i hi => ?_⟩
  show (decide (-1000000 ≤ i) && decide (i ≤ 1000000)) = true
  have := h.num i hi
  simp [this.1, this.2]
theorem forms_of {m : Nat} {gs : List (List Int)} (h : ∀ g ∈ gs, FmOk m g) : formsB m (.tuple (gs.map fD)) = true := by
  show (gs.map fD).all (formB m) = true
  rw [List.all_map, List.all_eq_true]
  exact fun g hg => form_of (h g hg)
theorem say_of {m : Nat} {s : Str × List Int} (h1 : nameS s.1 = true) (h2 : FmOk m s.2) : sayB m (sayD s) = true := by
  show (nameS s.1 && formB m (fD s.2)) = true
  rw [h1, form_of h2]
  rfl
section
variable {P : Program} {w : World} {K : PySem.W.Frag} {mg : Str → Option Value} {base : Heap} {f : Addr} {fd : FuncData}
def spParts (K : PySem.W.Frag) : Sp := fun vs H Q _ => ∃ p : Addr, vs = [.ref p] ∧ Pail H p ∧ ∀ (r : Addr) (u v z : V) (ns : List Str) (ss : List (Str × List Int)) (as : List Arm) (H' : Hp), OkP ns ss as → H r = none → H' r = some (.lst [u, v, z]) → Dp K H' u (namesD ns) → Dp K H' v (saysD ss) → Dp K H' z (armsD as) → Pail H' p → But p H H' → Q (.ref r) H'
abbrev nParts : List Str := ["_law_pail", "_law_size", "_law_tags_here", "_law_spots", "_law_says", "_law_k", "_law_arms", "_law_asks", "_law_j", "_law_turns"]
theorem scParts : FnScope nParts ["_law_pail"] (defScope sParts) := ⟨rfl, rfl, rfl, by decide +kernel, rfl, by decide +kernel, by decide +kernel⟩
/-- where the law's drawing defs stand -/
structure Dr (K : PySem.W.Frag) (mg : Str → Option Value) (fC fA fT fW fF : Addr) (dC dA dT dW dF : FuncData) : Prop where
  c : FnP K "_law_cast" sCast fC dC
  a : FnP K "_law_any_of" sAny fA dA
  t : FnP K "_law_tags" sTags fT dT
  w : FnP K "_law_wide" sWide fW dW
  f : FnP K "_law_form" sForm fF dF
  gc : mg "_law_cast" = some (.ref fC)
  ga : mg "_law_any_of" = some (.ref fA)
  gt : mg "_law_tags" = some (.ref fT)
  gw : mg "_law_wide" = some (.ref fW)
  gf : mg "_law_form" = some (.ref fF)
theorem none_but {p q : Addr} {H H1 : Hp} (b : But p H H1) (hp : Pail H1 p) (n : H1 q = none) : H q = none := by
  cases e : H q with
  | none => rfl
  | some o =>
    have z := b q o e (fun h => by
      obtain ⟨o1, st, c, h1, _⟩ := hp
      rw [← h, n] at h1
      cases h1)
    rw [n] at z
    cases z
theorem ok_parts {fC fA fT fW fF : Addr} {dC dA dT dW dF : FuncData} (F : FnP K "_law_parts" sParts f fd) (T : Bl mg) (R : RangeB mg) (D : Dr K mg fC fA fT fW fF dC dA dT dW dF) : FnOk P w K mg base CX0 5 f fd ["_law_pail"] (spParts K) := by
  have GC : FnOk P w K mg base CX0 1 fC dC ["_law_pail", "_law_many"] spCast := ok_cast D.c T
  have GA : FnOk P w K mg base CX0 2 fA dA ["_law_pail", "_law_some"] (spAny K) := ok_any D.a T D.c D.gc
  have GT : FnOk P w K mg base CX0 2 fT dT ["_law_pail", "_law_many"] spTags := ok_tags D.t T D.c D.gc
  have GF : FnOk P w K mg base CX0 4 fF dF ["_law_pail", "_law_size"] (spForm K) := ok_form D.f T R D.c D.gc D.a D.ga D.w D.gw
  have bC : Binds K dC ["_law_pail", "_law_many"] [] := D.c.bindsN fun _ _ _ _ _ _ us hl => match us, hl with | [_, _], _ => rfl
  have bA : Binds K dA ["_law_pail", "_law_some"] [] := D.a.bindsN fun _ _ _ _ _ _ us hl => match us, hl with | [_, _], _ => rfl
  have bT : Binds K dT ["_law_pail", "_law_many"] [] := D.t.bindsN fun _ _ _ _ _ _ us hl => match us, hl with | [_, _], _ => rfl
  have bF : Binds K dF ["_law_pail", "_law_size"] [] := D.f.bindsN fun _ _ _ _ _ _ us hl => match us, hl with | [_, _], _ => rfl
  refine F.ok scParts (fun vs H Q E h => ?_) (fun cdv A outer s H vs Q E hr h => ?_)
  · obtain ⟨p, rfl, _⟩ := h
    rfl
  · obtain ⟨p, rfl, hp, k⟩ := h
    have hr1 := hr.mono (show 1 ≤ 4 by decide)
    have hr2 := hr.mono (show 2 ≤ 4 by decide)
    refine ⟨_, PSs.nox <| pss_cons (ps_asg (pe_tupR (pa_cons (pe_op op_add pe_int (pe_call GC hr1 (by rfl) D.gc D.c.kp bC .nil pass0 (pa_cons (pv 0) (pa_cons pe_int pa_nil)))) (pa_cons (pe_call GT hr2 (by rfl) D.gt D.t.kp bT .nil pass0 (pa_cons (pv 0) (pa_cons pe_int pa_nil))) pa_nil))) (pg_tup (by rfl) (pgs_cons (pg_name (i := 1) scParts.nd rfl (.inr rfl)) (pgs_cons (pg_name (i := 2) scParts.nd rfl (.inl rfl)) pgs_nil))))
      <| pss_cons (ps_set (i := 3) scParts.nd rfl (.inr rfl) (pe_slice (r := rSlR K) sl_listR (pv 2) (po_some pe_int) (po_some (pe_op op_add pe_int (pe_call GC hr1 (by rfl) D.gc D.c.kp bC .nil pass0 (pa_cons (pv 0) (pa_cons pe_int pa_nil)))))))
      <| pss_cons (ps_set (i := 4) scParts.nd rfl (.inl rfl) (pe_callTy call_tuple_of (by rfl) R.tuple (by decide +kernel) (pa_cons (pe_lc (own := [("_law_k", 5)]) (g := gName 5) (tt := tYes) rfl scParts.nd (pi_range1 (by rfl) R.range (pa_cons (pe_call GC hr1 (by rfl) D.gc D.c.kp bC .nil pass0 (pa_cons (pv 0) (pa_cons pe_int pa_nil))) pa_nil)) (blkOk_by (N := nParts) (sc := defScope sParts) (by decide +kernel)) (fun _ _ _ _ _ => pg_name (i := 5) scParts.nd rfl (Or.inl rfl)) (fun _ _ _ _ _ => pts_nil)
          (fun _ _ _ _ _ => pe_tupR (pa_cons (pe_call GA hr2 (by rfl) D.ga D.a.kp bA .nil pass0 (pa_cons (pv 0) (pa_cons (pv 3) pa_nil))) (pa_cons (pe_call GF hr (by rfl) D.gf D.f.kp bF .nil pass0 (pa_cons (pv 0) (pa_cons (pv 1) pa_nil))) pa_nil)))) pa_nil)))
      <| pss_cons (ps_set (i := 6) scParts.nd rfl (.inl rfl) (pe_lstR pa_nil))
      <| pss_cons (ps_for PassesOwn.never rfl (pi_range1 (by rfl) R.range (pa_cons (pe_op op_add pe_int (pe_call GC hr1 (by rfl) D.gc D.c.kp bC .nil pass0 (pa_cons (pv 0) (pa_cons pe_int pa_nil)))) pa_nil)) (pg_name (i := 5) scParts.nd rfl (.inl rfl))
          (pss_cons (ps_set (i := 7) scParts.nd rfl (.inl rfl) (pe_callTy call_tuple_of (by rfl) R.tuple (by decide +kernel) (pa_cons (pe_lc (own := [("_law_j", 8)]) (g := gName 8) (tt := tYes) rfl scParts.nd (pi_range1 (by rfl) R.range (pa_cons (pe_call GC hr1 (by rfl) D.gc D.c.kp bC .nil pass0 (pa_cons (pv 0) (pa_cons pe_int pa_nil))) pa_nil)) (blkOk_by (N := nParts) (sc := defScope sParts) (by decide +kernel)) (fun _ _ _ _ _ => pg_name (i := 8) scParts.nd rfl (Or.inl rfl)) (fun _ _ _ _ _ => pts_nil) (fun _ _ _ _ _ => (pe_call GF hr (by rfl) D.gf D.f.kp bF .nil pass0 (pa_cons (pv 0) (pa_cons (pv 1) pa_nil))))) pa_nil)))
          <| pss_cons (ps_set (i := 9) scParts.nd rfl (.inl rfl) (pe_callTy call_tuple_of (by rfl) R.tuple (by decide +kernel) (pa_cons (pe_lc (own := [("_law_j", 8)]) (g := gName 8) (tt := tYes) rfl scParts.nd (pi_range1 (by rfl) R.range (pa_cons (pv 1) pa_nil)) (blkOk_by (N := nParts) (sc := defScope sParts) (by decide +kernel)) (fun _ _ _ _ _ => pg_name (i := 8) scParts.nd rfl (Or.inl rfl)) (fun _ _ _ _ _ => pts_nil) (fun _ _ _ _ _ => (pe_call GF hr (by rfl) D.gf D.f.kp bF .nil pass0 (pa_cons (pv 0) (pa_cons (pv 1) pa_nil))))) pa_nil)))
          <| pss_one (ps_expr (pe_bm PySem.F.plainAttrs_list PySem.F.slot_list_append PySem.F.type_list_append mt_append (pv 6) (pa_cons (pe_tupR (pa_cons (pe_call GA hr2 (by rfl) D.ga D.a.kp bA .nil pass0 (pa_cons (pv 0) (pa_cons (pv 3) pa_nil))) (pa_cons (pe_call GA hr2 (by rfl) D.ga D.a.kp bA .nil pass0 (pa_cons (pv 0) (pa_cons (pv 3) pa_nil))) (pa_cons (pv 7) (pa_cons (pv 9) pa_nil))))) pa_nil)))))
      <| pss_one (ps_ret (pe_lstR (pa_cons (pe_callTy call_tuple_of (by rfl) R.tuple (by decide +kernel) (pa_cons (pe_slice (r := rSlR K) sl_listR (pv 2) po_none (po_some (pv 1))) pa_nil)) (pa_cons (pv 4) (pa_cons (pe_callTy call_tuple_of (by rfl) R.tuple (by decide +kernel) (pa_cons (pv 6) pa_nil)) pa_nil))))), ?_⟩
    refine ⟨_, rfl, p, _, rfl, hp, by decide, by decide, fun r1 H1 r10 r11 hp1 b1 => ⟨_, _, rfl, rfl, _, rfl, p, rfl, hp1, fun q l H2 okl nq eq hp2 b2 => ⟨(show 2 ≤ 1000 by decide), fun T3 H3 n3 => ?_⟩⟩⟩
    obtain ⟨j1, rfl⟩ := Int.eq_ofNat_of_zero_le r10
    have em : (1 + (j1 : Int)) = ((j1 + 1 : Nat) : Int) := by omega
    replace n3 : New H2 T3 (.tup [.int (1 + (j1 : Int)), .ref q]) H3 := n3
    rw [em] at n3
    have m3 : j1 + 1 ≤ 3 := by omega
    have m1 : 1 ≤ j1 + 1 := by omega
    generalize j1 + 1 = m at n3 m3 m1
    refine ⟨T3, _, rfl, SqT.of n3.2.1, rfl, _, _, rfl, _, _, rfl, rfl, ?_⟩
    have hp3 := hp2.same n3.2.2
    have qp : q ≠ p := (hp1.ne nq).symm
    have eq3 := n3.2.2 _ _ eq
    have b3 : But p H H3 := b1.trans (b2.trans (but_same n3.2.2))
    refine ⟨_, rfl, 3, rfl, _, rfl, p, _, rfl, hp3, by decide, by decide, fun r2 H4 r20 r21 hp4 b4 => ⟨_, _, rfl, rfl, _, rfl, q, _, rfl, SqL.of (b4 q _ eq3 qp), fun sp H5 n5 => ?_⟩⟩
    obtain ⟨j2, rfl⟩ := Int.eq_ofNat_of_zero_le r20
    have l6 : (l.map V.str).length = 6 := by
      rw [List.length_map]
      exact okl.six
    have c5 : cutV (l.map V.str) (some 3) (some (4 + (j2 : Int))) = ((l.drop 3).take (j2 + 1)).map V.str := by
      unfold cutV
      rw [show (3 : Int) = ((3 : Nat) : Int) from rfl, show (4 + (j2 : Int)) = ((4 + j2 : Nat) : Int) by omega, HT.sIx_nat, HT.sIx_nat, l6, Nat.min_eq_left (show 4 + j2 ≤ 6 by omega), Nat.min_eq_left (show 3 ≤ 6 by decide), List.map_take, List.map_drop, show 4 + j2 - 3 = j2 + 1 by omega]
    replace n5 : New H4 sp (.lst (cutV (l.map V.str) (some 3) (some (4 + (j2 : Int))))) H5 := n5
    rw [c5] at n5
    have spl : ((l.drop 3).take (j2 + 1)).length ≤ 3 := by
      rw [List.length_take, List.length_drop, okl.six]
      omega
    have spp : 0 < ((l.drop 3).take (j2 + 1)).length := by
      rw [List.length_take, List.length_drop, okl.six]
      omega
    have spn : ∀ z ∈ (l.drop 3).take (j2 + 1), nameS z = true := fun z hz => okl.nm z (List.mem_of_mem_drop (List.mem_of_mem_take hz))
    generalize (l.drop 3).take (j2 + 1) = spS at n5 spl spp spn
    have spp2 : 0 < (spS.map V.str).length := by rw [List.length_map]; exact spp
    have spl2 : (spS.map V.str).length ≤ 1000 := by rw [List.length_map]; omega
    have hp5 := hp4.same n5.2.2
    have b5 : But p H H5 := b3.trans (b4.trans (but_same n5.2.2))
    have esp := n5.2.1
    have snp : sp ≠ p := (hp4.ne n5.1).symm
    have eq5 := n5.2.2 _ _ (b4 q _ eq3 qp)
    -- the sayings
    refine ⟨_, rfl, p, _, rfl, hp5, by decide, by decide, fun r3 H6 r30 r31 hp6 b6 => ⟨r3, rfl, by omega, by omega, ?_⟩⟩
    have esp6 := b6 sp _ esp snp
    have eq6 := b6 q _ eq5 qp
    have b06 := b5.trans b6
    intro D hD
    refine lc_range (lo := 0) (n := r3.toNat) (fun i H' => ∃ (ss : List (Str × List Int)) (X : List V), ss.length = i ∧ (∀ s ∈ ss, nameS s.1 = true ∧ FmOk m s.2 ∧ s.1 ∈ spS) ∧ H' D = some (.lst X) ∧ DpAll K H' X (ss.map sayD) ∧ Pail H' p ∧ But p H6 H') ⟨[], [], rfl, (fun _ h => by cases h), upd_same, .nil, hp6.upd (hp6.ne hD), but_same (same_new hD)⟩ ?_ ?_
    · rintro i H7 hi ⟨ss, X, ls, hss, hX, hdX, hp7, b7⟩
      refine ⟨rfl, _, rfl, _, rfl, p, sp, _, rfl, hp7, b7 sp _ esp6 snp, snp, spp2, spl2, fun i2 x H8 ex hp8 b8 => ?_⟩
      obtain ⟨c, ec, rfl⟩ := strs_at ex
      have hc := List.mem_of_getElem? ec
      refine ⟨_, rfl, _, rfl, p, m, rfl, m3, hp8, fun v g H9 lg hg dg hp9 b9 => ⟨(show 2 ≤ 1000 by decide), fun t H10 n10 => ?_⟩⟩
      have hX10 := n10.2.2 _ _ (b9 D _ (b8 D _ hX (hp6.ne hD).symm) (hp6.ne hD).symm)
      have nl7 : Nl H7 H10 := (b8.nl hp7).trans ((b9.nl hp8).trans (nl_same n10.2.2))
      have ln := Pg.dp_len' hdX
      refine ⟨X, hX10, small1000 (by rw [ln, List.length_map]; omega), ss ++ [(c, g)], _, by rw [List.length_append, ls]; rfl, fun s hs => ?_, upd_same, ?_, (hp9.same n10.2.2).upd (hp6.ne hD), fun b o e nb => ?_⟩
      · rcases List.mem_append.mp hs with hs | hs
        · exact hss s hs
        · rw [List.mem_singleton.mp hs]
          exact ⟨spn c hc, ⟨lg, hg⟩, hc⟩
      · rw [List.map_append]
        refine dp_snoc (dp_nl (nl_upd hX10) _ (nol_say (c, g)) ?_) (dp_nlAll (nl7.trans (nl_upd hX10)) _ (nol_map nol_say _) hdX)
        exact .tup (SqT.of n10.2.1) (.cons (.str c) (.cons (Pg.dp_sameD n10.2.2 dg) .nil))
      · rw [upd_ne (ne_of_none e hD)]
        exact n10.2.2 _ _ (b9 b o (b8 b o (b7 b o e nb) nb) nb)
    · rintro H7 ⟨ss, X, ls, hss, hX, hdX, hp7, b7⟩
      refine ⟨D, _, rfl, .inl ⟨SqL.of hX, fun b nb => ?_⟩⟩
      have s8 := same_new (o := .tup X) nb
      have eb : (upd H7 b (.tup X)) b = some (.tup X) := upd_same
      have hp8 := hp7.same s8
      have hb8 : Dp K (upd H7 b (.tup X)) (.ref b) (saysD ss) := .tup (SqT.of eb) (Pg.dp_sameAllD s8 hdX)
      have esp8 := s8 _ _ (b7 sp _ esp6 snp)
      have eq8 := s8 _ _ (b7 q _ eq6 qp)
      have b8 : But p H (upd H7 b (.tup X)) := b06.trans (b7.trans (but_same s8))
      have ls3 : ss.length ≤ 3 := by omega
      generalize upd H7 b (.tup X) = H8 at hp8 hb8 esp8 eq8 b8
      clear hX hdX b7 s8 eb
      refine ⟨(show 0 ≤ 1000 by decide), fun A H9 n9 => ?_⟩
      have hp9 := hp8.same n9.2.2
      refine ⟨_, rfl, p, _, rfl, hp9, by decide, by decide, fun r5 H10 r50 r51 hp10 b10 => ⟨_, _, rfl, rfl, _, rfl, by omega, by omega, ?_⟩⟩
      have Ap : A ≠ p := (hp8.ne n9.1).symm
      have b810 : But p H8 H10 := (but_same n9.2.2).trans b10
      refine for_range (lo := 0) (n := (1 + r5).toNat) (fun i σ H' => ∃ (x5 x7 x8 x9 : Option V) (as : List Arm) (X : List V), σ = [some (.ref p), some (.int m), some (.ref q), some (.ref sp), some (.ref b), x5, some (.ref A), x7, x8, x9] ∧ as.length = i ∧ (∀ a ∈ as, ArmOk m a ∧ a.src ∈ spS ∧ a.tgt ∈ spS) ∧ H' A = some (.lst X) ∧ DpAll K H' X (as.map armD) ∧ Pail H' p ∧ But p H8 H') ⟨_, _, _, _, [], [], rfl, rfl, (fun _ h => by cases h), b10 A _ n9.2.1 Ap, .nil, hp10, b810⟩ ?_ ?_
      · rintro i σ H11 hi ⟨x5, x7, x8, x9, as, X, rfl, la, has, hA, hdX, hp11, b11⟩
        refine ⟨_, rfl, p, _, rfl, hp11, by decide, by decide, fun r6 H12 r60 r61 hp12 b12 => ⟨r6, rfl, by omega, by omega, ?_⟩⟩
        intro D1 hD1
        refine lc_range (lo := 0) (n := r6.toNat) (fun j Hj => ∃ (fs : List (List Int)) (Y : List V), fs.length = j ∧ (∀ g ∈ fs, FmOk m g) ∧ Hj D1 = some (.lst Y) ∧ DpAll K Hj Y (fs.map fD) ∧ Pail Hj p ∧ But p H12 Hj) ⟨[], [], rfl, (fun _ h => by cases h), upd_same, .nil, hp12.upd (hp12.ne hD1), but_same (same_new hD1)⟩ ?_ ?_
        · rintro j Hj hj ⟨fs, Y, lf, hf, hY, hdY, hpj, bj⟩
          refine ⟨rfl, _, rfl, _, rfl, p, m, rfl, m3, hpj, fun v g Hk lg hg dg hpk bk => ?_⟩
          have hYk := bk D1 _ hY (hp12.ne hD1).symm
          have nlk : Nl Hj (upd Hk D1 (.lst (Y ++ [v]))) := (bk.nl hpj).trans (nl_upd hYk)
          have ln := Pg.dp_len' hdY
          refine ⟨Y, hYk, small1000 (by rw [ln, List.length_map]; omega), fs ++ [g], _, by rw [List.length_append, lf]; rfl, fun g2 h2 => ?_, upd_same, ?_, hpk.upd (hp12.ne hD1), fun b o e nb => ?_⟩
          · rcases List.mem_append.mp h2 with h2 | h2
            · exact hf g2 h2
            · rw [List.mem_singleton.mp h2]
              exact ⟨lg, hg⟩
          · rw [List.map_append]
            exact dp_snoc (dp_nl (nl_upd hYk) _ (nol_f _) dg) (dp_nlAll nlk _ (nol_map nol_f _) hdY)
          · rw [upd_ne (ne_of_none e hD1)]
            exact bk b o (bj b o e nb) nb
        · rintro H13 ⟨fs, Y, lf, hf, hY, hdY, hp13, b13⟩
          refine ⟨D1, _, rfl, .inl ⟨SqL.of hY, fun q1 nq1 => ?_⟩⟩
          have s14 := same_new (o := .tup Y) nq1
          have hq1 : Dp K (upd H13 q1 (.tup Y)) (.ref q1) (.tuple (fs.map fD)) := .tup (SqT.of upd_same) (Pg.dp_sameAllD s14 hdY)
          have hp14 := hp13.same s14
          have b1114 : But p H11 (upd H13 q1 (.tup Y)) := b12.trans (b13.trans (but_same s14))
          have lf3 : fs.length ≤ 3 := by omega
          generalize upd H13 q1 (.tup Y) = H14 at hq1 hp14 b1114
          clear hY hdY b13 s14
          refine ⟨_, rfl, _, rfl, by omega, by omega, ?_⟩
          intro D2 hD2
          refine lc_range (lo := 0) (n := (m : Int).toNat) (fun j Hj => ∃ (fs : List (List Int)) (Y : List V), fs.length = j ∧ (∀ g ∈ fs, FmOk m g) ∧ Hj D2 = some (.lst Y) ∧ DpAll K Hj Y (fs.map fD) ∧ Pail Hj p ∧ But p H14 Hj) ⟨[], [], rfl, (fun _ h => by cases h), upd_same, .nil, hp14.upd (hp14.ne hD2), but_same (same_new hD2)⟩ ?_ ?_
          · rintro j Hj hj ⟨fs, Y, lf, hf, hY, hdY, hpj, bj⟩
            refine ⟨rfl, _, rfl, _, rfl, p, m, rfl, m3, hpj, fun v g Hk lg hg dg hpk bk => ?_⟩
            have hYk := bk D2 _ hY (hp14.ne hD2).symm
            have nlk : Nl Hj (upd Hk D2 (.lst (Y ++ [v]))) := (bk.nl hpj).trans (nl_upd hYk)
            have ln := Pg.dp_len' hdY
            refine ⟨Y, hYk, small1000 (by rw [ln, List.length_map]; omega), fs ++ [g], _, by rw [List.length_append, lf]; rfl, fun g2 h2 => ?_, upd_same, ?_, hpk.upd (hp14.ne hD2), fun b o e nb => ?_⟩
            · rcases List.mem_append.mp h2 with h2 | h2
              · exact hf g2 h2
              · rw [List.mem_singleton.mp h2]
                exact ⟨lg, hg⟩
            · rw [List.map_append]
              exact dp_snoc (dp_nl (nl_upd hYk) _ (nol_f _) dg) (dp_nlAll nlk _ (nol_map nol_f _) hdY)
            · rw [upd_ne (ne_of_none e hD2)]
              exact bk b o (bj b o e nb) nb
          · rintro H15 ⟨gs, Z, lg, hg, hZ, hdZ, hp15, b15⟩
            refine ⟨D2, _, rfl, .inl ⟨SqL.of hZ, fun q2 nq2 => ?_⟩⟩
            have s16 := same_new (o := .tup Z) nq2
            have hq2 : Dp K (upd H15 q2 (.tup Z)) (.ref q2) (.tuple (gs.map fD)) := .tup (SqT.of upd_same) (Pg.dp_sameAllD s16 hdZ)
            have hp16 := hp15.same s16
            have b1416 : But p H14 (upd H15 q2 (.tup Z)) := b15.trans (but_same s16)
            have lgm : gs.length = m := by omega
            generalize upd H15 q2 (.tup Z) = H16 at hq2 hp16 b1416
            clear hZ hdZ b15 s16
            have hA16 := b1416 A _ (b1114 A _ hA Ap) Ap
            have b816 := b11.trans (b1114.trans b1416)
            refine ⟨_, rfl, .inl ⟨rfl, _, SqL.of hA16⟩, _, rfl, _, rfl, p, sp, _, rfl, hp16, b816 sp _ esp8 snp, snp, spp2, spl2, fun i2 x2 H17 ex2 hp17 b17 => ?_⟩
            obtain ⟨c2, ec2, rfl⟩ := strs_at ex2
            have hc2 := List.mem_of_getElem? ec2
            refine ⟨_, rfl, _, rfl, p, sp, _, rfl, hp17, b17 sp _ (b816 sp _ esp8 snp) snp, snp, spp2, spl2, fun i3 x3 H18 ex3 hp18 b18 => ?_⟩
            obtain ⟨c3, ec3, rfl⟩ := strs_at ex3
            have hc3 := List.mem_of_getElem? ec3
            refine ⟨_, rfl, _, rfl, (show 4 ≤ 1000 by decide), fun t H19 n19 => ?_⟩
            have hA19 := n19.2.2 _ _ (b18 A _ (b17 A _ hA16 Ap) Ap)
            have nl1619 : Nl H16 H19 := (b17.nl hp16).trans ((b18.nl hp17).trans (nl_same n19.2.2))
            have nl1419 : Nl H14 H19 := (b1416.nl hp14).trans nl1619
            have nl1119 : Nl H11 H19 := (b1114.nl hp11).trans nl1419
            have ln := Pg.dp_len' hdX
            refine ⟨A, _, _, rfl, rfl, hA19, small1000 (by rw [ln, List.length_map]; omega), ?_⟩
            refine ⟨_, _, _, _, as ++ [⟨c2, c3, fs, gs⟩], _, rfl, by rw [List.length_append, la]; rfl, fun a ha => ?_, upd_same, ?_, (hp18.same n19.2.2).upd Ap.symm, fun b2 o e nb2 => ?_⟩
            · rcases List.mem_append.mp ha with ha | ha
              · exact has a ha
              · rw [List.mem_singleton.mp ha]
                exact ⟨⟨spn c2 hc2, spn c3 hc3, forms_of hf, lf3, forms_of hg, lgm⟩, hc2, hc3⟩
            · rw [List.map_append]
              refine dp_snoc (dp_nl (nl_upd hA19) _ (nol_arm ⟨c2, c3, fs, gs⟩) ?_) (dp_nlAll (nl1119.trans (nl_upd hA19)) _ (nol_map nol_arm _) hdX)
              exact .tup (SqT.of n19.2.1) (.cons (.str c2) (.cons (.str c3) (.cons (dp_nl nl1419 _ (nol_fs _) hq1) (.cons (dp_nl nl1619 _ (nol_fs _) hq2) .nil))))
            · rw [upd_ne (ne_of_none e n9.1)]
              exact n19.2.2 _ _ (b18 b2 o (b17 b2 o (b816 b2 o e nb2) nb2) nb2)
      · rintro σ H11 ⟨x5, x7, x8, x9, as, X, rfl, la, has, hA, hdX, hp11, b11⟩
        have eq11 := b11 q _ eq8 qp
        refine ⟨_, rfl, _, rfl, _, rfl, q, _, rfl, SqL.of eq11, fun ql H12 n12 => ?_⟩
        rw [cut_take (by omega), ← List.map_take] at n12
        refine ⟨ql, _, rfl, .inl ⟨SqL.of n12.2.1, fun u nu => ?_⟩⟩
        have s13 := same_new (o := .tup ((l.take m).map V.str)) nu
        have hu : Dp K (upd H12 u (.tup ((l.take m).map V.str))) (.ref u) (namesD (l.take m)) := Pg.dp_names (SqT.of upd_same)
        generalize upd H12 u (.tup ((l.take m).map V.str)) = H13 at s13 hu
        have s1113 := n12.2.2.trans s13
        refine ⟨_, rfl, _, rfl, A, _, rfl, .inl ⟨SqL.of (s1113 _ _ hA), fun z nz => ?_⟩⟩
        have s14 := same_new (o := .tup X) nz
        have hz : Dp K (upd H13 z (.tup X)) (.ref z) (armsD as) := .tup (SqT.of upd_same) (Pg.dp_sameAllD (s1113.trans s14) hdX)
        generalize upd H13 z (.tup X) = H14 at s14 hz
        refine ⟨(show 3 ≤ 1000 by decide), fun r H15 n15 => ?_⟩
        have s1315 := s14.trans n15.2.2
        have s1115 := s1113.trans s1315
        have hp15 := hp11.same s1115
        have b15 : But p H H15 := b8.trans (b11.trans (but_same s1115))
        have lnm : (l.take m).length = m := by
          rw [List.length_take, okl.six]
          omega
        have oN : OkN (l.take m) := ⟨by omega, by omega, fun y hy => okl.nm y (List.mem_of_mem_take hy), okl.nd.sublist (List.take_sublist _ _)⟩
        have oS : OkS (l.take m).length ss := ⟨ls3, fun s hs => by rw [lnm]; exact say_of (hss s hs).1 (hss s hs).2.1⟩
        have oA : OkA (l.take m).length ss as := ⟨by omega, by omega, fun a ha => by rw [lnm]; exact (has a ha).1, Nat.le_trans (places_few (fun s hs => (hss s hs).2.2) fun a ha => (has a ha).2) spl⟩
        have b14 : But p H H14 := b8.trans (b11.trans (but_same (s1113.trans s14)))
        exact k r _ _ _ (l.take m) ss as H15 ⟨oN, oS, oA⟩ (none_but b14 (hp11.same (s1113.trans s14)) n15.1) n15.2.1 (Pg.dp_sameD s1315 hu) (dp_nl ((b11.nl hp8).trans (nl_same s1115)) _ (Pg.nol_says ss) hb8) (Pg.dp_sameD n15.2.2 hz) hp15 b15
end
end K5
set_option Elab.async false
set_option linter.all false
set_option maxRecDepth 100000
set_option maxHeartbeats 8000000
namespace Pg
open PySem PySem.Spec PyProof.Rows L2 Gd Rl Te Nu TL
abbrev sLw : Stmt := top 43
abbrev sLa : Stmt := top 44
abbrev sLl : Stmt := top 45
abbrev sLs : Stmt := top 46
section
variable {P : Program} {w : World} {K : PySem.W.Frag} {mg : Str → Option Value} {base : Heap} {f : Addr} {fd : FuncData}
theorem scLw : FnScope ["_law_some", "_law_each"] ["_law_some"] (defScope sLw) := ⟨rfl, rfl, rfl, by decide +kernel, rfl, by decide +kernel, by decide +kernel⟩
theorem ok_lw (F : FnP K "_law_words" sLw f fd) (T : Mo mg) : FnOk P w K mg base CX0 1 f fd ["_law_some"] (spWd K) := by
  refine F.ok scLw (fun vs H Q E h => ?_) (fun cdv A outer s H vs Q E hr h => ?_)
  · obtain ⟨v, d, rfl, _⟩ := h
    rfl
  · obtain ⟨v, fo, rfl, hd, ok, k⟩ := h
    refine ⟨_, PSs.nox <| pss_one (ps_ret (pe_join pe_str (pe_lc (own := [("_law_each", 1)]) (g := gName 1) (tt := tYes) rfl scLw.nd (pi_tup (pv 0)) (blkOk_by (N := ["_law_some", "_law_each"]) (sc := defScope sLw) (by decide +kernel)) (fun _ _ _ _ _ => pg_name (i := 1) scLw.nd rfl (Or.inl rfl)) (fun _ _ _ _ _ => pts_nil)
          (fun _ _ _ _ _ => pe_callTy call_str_int (by rfl) T.str (by decide +kernel) (pa_cons (pv 1) pa_nil))))), ?_⟩
    obtain ⟨a, xs, rfl, hs, ha⟩ := rp_tup (.inl hd)
    have lx := dp_len ha
    rw [List.length_map] at lx
    have h4 := ok.four
    refine ⟨⟨_, rfl⟩, _, rfl, a, rfl, ⟨_, hs⟩, lcR (walk_tup (xs := xs)) (n1 := by omega) (fun H' s' => Same.seqT s' hs) (fun i y _ => ∃ s, fo[i]? = some s ∧ y = .str (numS s)) (fun _ _ _ _ _ e => e) ?_ ?_⟩
    · rintro D acc i x Ha Hb K2 hi s nD hD ⟨rfl, ex⟩ kk
      obtain ⟨n, en, hz⟩ := map_at ha ex
      cases hz
      exact ⟨rfl, _, rfl, n, rfl, num_log (ok.nums n (List.mem_of_getElem? en)), kk _ _ (Same.refl _) ⟨n, en, rfl⟩⟩
    · rintro D H1 zs nw hlen he
      have ez : zs = (fo.map numS).map V.str := by
        rw [List.map_map]
        exact list_is (by rw [hlen, lx]) he
      subst ez
      refine ⟨_, D, fo.map numS, rfl, rfl, .inl (SqL.of nw.2.1), ?_, k H1 nw.2.2⟩
      have := words_sum ok
      rw [show (" " : Str).length = 1 by decide +kernel, List.length_map]
      omega
/-! ### the lines of a branch -/
theorem eB (a : Arm) : ("branch " : Str) ++ a.src ++ " " ++ a.tgt = lineB a := by
  apply ext_tl
  unfold lineB
  simp only [tl_append, List.append_assoc]
  rfl
theorem eT (t : List Int) : ("test " : Str) ++ wordsS t = lineT t := by
  apply ext_tl
  unfold lineT
  simp only [tl_append, List.append_assoc]
  rfl
theorem eS (s : Str × List Int) : ("say " : Str) ++ s.1 ++ " " ++ wordsS s.2 = lineS s := by
  apply ext_tl
  unfold lineS
  simp only [tl_append, List.append_assoc]
  rfl
theorem eV {ns : List Str} (h : OkN ns) : ("vars " : Str) ++ Txt.join " " ns = lineV ns := by
  apply ext_tl
  unfold lineV
  cases ns with
  | nil => exact absurd h.one (by decide)
  | cons n r =>
    rw [join_eq, join_eq]
    show tl (("vars " : Str) ++ Str.join " " (n :: r)) = tl ("vars" ++ " " ++ Str.join " " (n :: r))
    simp only [tl_append, List.append_assoc]
    rw [show tl ("vars " : Str) = tl ("vars" : Str) ++ tl (" " : Str) by decide +kernel, List.append_assoc]
def spLa (K : PySem.W.Frag) : Sp := fun vs H Q _ => ∃ (v : V) (m : Nat) (a : Arm), vs = [v] ∧ m ≤ 3 ∧ ArmOk m a ∧ Dp K H v (armD a) ∧ ∀ q H', Same H H' → H' q = some (.lst ((armL a).map V.str)) → Q (.ref q) H'
abbrev nLa : List Str := ["_law_arm", "_law_near_here", "_law_far", "_law_asks", "_law_turns", "_law_lines_here", "_law_ask", "_law_turn"]
theorem scLa : FnScope nLa ["_law_arm"] (defScope sLa) := ⟨rfl, rfl, rfl, by decide +kernel, rfl, by decide +kernel, by decide +kernel⟩
theorem ok_la {fW : Addr} {dW : FuncData} (F : FnP K "_law_arm_lines" sLa f fd) (T : Mo mg) (FW : FnP K "_law_words" sLw fW dW) (gW : mg "_law_words" = some (.ref fW)) : FnOk P w K mg base CX0 2 f fd ["_law_arm"] (spLa K) := by
  have GW : FnOk P w K mg base CX0 1 fW dW ["_law_some"] (spWd K) := ok_lw FW T
  have bW : Binds K dW ["_law_some"] [] := FW.bindsN fun _ _ _ _ _ _ us hl => match us, hl with | [_], _ => rfl
  refine F.ok scLa (fun vs H Q E h => ?_) (fun cdv A outer s H vs Q E hr h => ?_)
  · obtain ⟨v, m, a, rfl, _⟩ := h
    rfl
  · obtain ⟨v, m, ar, rfl, m3, har, hv, k⟩ := h
    refine ⟨_, PSs.nox <| pss_cons (ps_asg (pv 0) (pg_tup (by rfl) (pgs_cons (pg_name (i := 1) scLa.nd rfl (.inl rfl)) (pgs_cons (pg_name (i := 2) scLa.nd rfl (.inl rfl)) (pgs_cons (pg_name (i := 3) scLa.nd rfl (.inl rfl)) (pgs_cons (pg_name (i := 4) scLa.nd rfl (.inl rfl)) pgs_nil))))))
      <| pss_cons (ps_set (i := 5) scLa.nd rfl (.inl rfl) (pe_op op_catR (pe_lstR (pa_cons (pe_op op_add_str (pe_op op_add_str (pe_op op_add_str pe_str (pv 1)) pe_str) (pv 2)) pa_nil))
          (pe_lc (own := [("_law_ask", 6)]) (g := gName 6) (tt := tYes) rfl scLa.nd (pi_tup (pv 3)) (blkOk_by (N := nLa) (sc := defScope sLa) (by decide +kernel)) (fun _ _ _ _ _ => pg_name (i := 6) scLa.nd rfl (Or.inl rfl)) (fun _ _ _ _ _ => pts_nil)
            (fun _ _ _ _ _ => pe_op op_add_str pe_str (pe_call GW hr (by rfl) gW FW.kp bW .nil pass0 (pa_cons (pv 6) pa_nil))))))
      <| pss_one (ps_ret (pe_op op_catR (pv 5) (pe_lstR (pa_cons (pe_op op_add_str pe_str (pe_join pe_str (pe_lc (own := [("_law_turn", 7)]) (g := gName 7) (tt := tYes) rfl scLa.nd (pi_tup (pv 4)) (blkOk_by (N := nLa) (sc := defScope sLa) (by decide +kernel)) (fun _ _ _ _ _ => pg_name (i := 7) scLa.nd rfl (Or.inl rfl)) (fun _ _ _ _ _ => pts_nil)
            (fun _ _ _ _ _ => pe_call GW hr (by rfl) gW FW.kp bW .nil pass0 (pa_cons (pv 7) pa_nil))))) pa_nil)))), ?_⟩
    obtain ⟨p, ws, rfl, hp, hws⟩ := rp_tup (.inl hv)
    cases hws with
    | @cons w0 _ _ _ z0 hw1 =>
    cases hw1 with
    | @cons w1 _ _ _ z1 hw2 =>
    cases hw2 with
    | @cons w2 _ _ _ z2 hw3 =>
    cases hw3 with
    | @cons w3 _ _ _ z3 hw4 =>
    cases hw4
    cases z0
    cases z1
    obtain ⟨d, ts, rfl, hd, hds⟩ := rp_tup (.inl z2)
    obtain ⟨q, cs, rfl, hq, hqs⟩ := rp_tup (.inl z3)
    have lt := dp_len hds
    have lc := dp_len hqs
    rw [List.length_map] at lt lc
    have t3 := har.t3
    have cm := har.cm
    have l8 := name_len8 har.s
    have l9 := name_len8 har.t
    have b1 : ("branch " : Str).length = 7 := by decide +kernel
    have b2 : (" " : Str).length = 1 := by decide +kernel
    refine ⟨_, rfl, p, _, rfl, hp, rfl, _, _, rfl, _, _, rfl, _, _, rfl, _, _, rfl, rfl, ?_⟩
    refine ⟨_, rfl, _, _, rfl, rfl, sz9 (by omega), _, _, rfl, rfl, sz9 (by rw [len_app, b1, b2]; omega), _, rfl, _, _, rfl, rfl, sz9 (by rw [len_app, len_app, b1, b2]; omega), (show 1 ≤ 1000 by decide), fun l1 H1 n1 => ?_⟩
    have s1 := n1.2.2
    refine ⟨_, rfl, d, rfl, ⟨_, Same.seqT s1 hd⟩, lcR (walk_tup (xs := ts)) (n1 := by omega) (fun H' s' => Same.seqT (s1.trans s') hd) (fun i y _ => ∃ s, ar.tests[i]? = some s ∧ y = .str (lineT s)) (fun _ _ _ _ _ e => e) ?_ ?_⟩
    · rintro D acc j x Ha Hb K2 hi s nD hD ⟨rfl, ex⟩ kk
      obtain ⟨te, et, hx⟩ := map_at hds ex
      have hte := okF_of m3 (forms_each har.ts te (List.mem_of_getElem? et))
      have lw := words_len hte
      refine ⟨rfl, _, rfl, x, te, rfl, dp_same (s1.trans s) _ hx, hte, fun Hc sc => ⟨_, _, rfl, rfl, sz9 (by rw [show ("test " : Str).length = 5 by decide +kernel]; omega), ?_⟩⟩
      rw [eT]
      exact kk _ _ sc ⟨te, et, rfl⟩
    · rintro D H2 ys n2 hlen he
      have ey : ys = (ar.tests.map lineT).map V.str := by
        rw [List.map_map]
        exact list_is (by rw [hlen, lt]) he
      subst ey
      have s2 := s1.trans n2.2.2
      refine ⟨l1, D, _, _, rfl, rfl, n2.2.2 _ _ n1.2.1, n2.2.1, by rw [List.length_map, List.length_map]; show 1 + _ ≤ 1000; omega, fun l3 H3 n3 => ?_⟩
      have s3 := s2.trans n3.2.2
      refine ⟨_, rfl, ⟨_, rfl⟩, _, rfl, q, rfl, ⟨_, Same.seqT s3 hq⟩, lcR (walk_tup (xs := cs)) (n1 := by have := m3; omega) (fun H' s' => Same.seqT (s3.trans s') hq) (fun i y _ => ∃ s, ar.turns[i]? = some s ∧ y = .str (wordsS s)) (fun _ _ _ _ _ e => e) ?_ ?_⟩
      · rintro D2 acc j x Ha Hb K2 hi s nD hD ⟨rfl, ex⟩ kk
        obtain ⟨tu, en, hx⟩ := map_at hqs ex
        have htu := okF_of m3 (forms_each har.cs tu (List.mem_of_getElem? en))
        exact ⟨rfl, _, rfl, x, tu, rfl, dp_same (s3.trans s) _ hx, htu, fun Hc sc => kk _ _ sc ⟨tu, en, rfl⟩⟩
      · rintro D2 H4 ys n4 hlen2 he2
        have ey : ys = (ar.turns.map wordsS).map V.str := by
          rw [List.map_map]
          exact list_is (by rw [hlen2, lc]) he2
        subst ey
        have q1 := turns_sum m3 har
        have q2 := turns_len m3 har
        refine ⟨_, D2, ar.turns.map wordsS, rfl, rfl, .inl (SqL.of n4.2.1), ?_, _, _, rfl, rfl, sz9 (by rw [show ("then " : Str).length = 5 by decide +kernel]; omega), (show 1 ≤ 1000 by decide), fun l5 H5 n5 => ?_⟩
        · rw [show ("; " : Str).length = 2 by decide +kernel, List.length_map]
          omega
        have e3 := n5.2.2 _ _ (n4.2.2 _ _ n3.2.1)
        refine ⟨l3, l5, _, _, rfl, rfl, e3, n5.2.1, by rw [List.length_append, List.length_map, List.length_map]; show 1 + _ + 1 ≤ 1000; omega, fun l6 H6 n6 => ?_⟩
        refine k l6 H6 (s3.trans (n4.2.2.trans (n5.2.2.trans n6.2.2))) ?_
        rw [n6.2.1]
        congr 2
        unfold armL
        rw [List.map_cons, List.map_append, ← eB]
        rfl
/-! ### the lines, the sheet -/
def spLl (K : PySem.W.Frag) (B : List Str → List (Str × List Int) → List Arm → V → Hp → Prop) : Sp := fun vs H Q _ => ∃ (r : Addr) (u v z : V) (m : Nat) (ns : List Str) (ss : List (Str × List Int)) (as : List Arm), vs = [.ref r] ∧ H r = some (.lst [u, v, z]) ∧ Dp K H u (namesD ns) ∧ Dp K H v (saysD ss) ∧ Dp K H z (armsD as) ∧ OkT m ns ss as ∧ ∀ y H', Same H H' → B ns ss as y H' → Q y H'
abbrev nLl : List Str := ["_law_parts_here", "_law_lines_here", "_law_spot", "_law_some", "_law_arm"]
theorem scLl : FnScope nLl ["_law_parts_here"] (defScope sLl) := ⟨rfl, rfl, rfl, by decide +kernel, rfl, by decide +kernel, by decide +kernel⟩
theorem ok_ll {fW fL : Addr} {dW dL : FuncData} (F : FnP K "_law_lines" sLl f fd) (T : Mo mg) (FW : FnP K "_law_words" sLw fW dW) (gW : mg "_law_words" = some (.ref fW)) (FL : FnP K "_law_arm_lines" sLa fL dL) (gL : mg "_law_arm_lines" = some (.ref fL)) : FnOk P w K mg base CX0 3 f fd ["_law_parts_here"] (spLl K fun ns ss as y H' => ∃ q, y = .ref q ∧ H' q = some (.lst ((linesS ns ss as).map V.str))) := by
  have GW : FnOk P w K mg base CX0 1 fW dW ["_law_some"] (spWd K) := ok_lw FW T
  have bW : Binds K dW ["_law_some"] [] := FW.bindsN fun _ _ _ _ _ _ us hl => match us, hl with | [_], _ => rfl
  have GL : FnOk P w K mg base CX0 2 fL dL ["_law_arm"] (spLa K) := ok_la FL T FW gW
  have bL : Binds K dL ["_law_arm"] [] := FL.bindsN fun _ _ _ _ _ _ us hl => match us, hl with | [_], _ => rfl
  refine F.ok scLl (fun vs H Q E h => ?_) (fun cdv A outer s H vs Q E hr h => ?_)
  · obtain ⟨r, u, v, z, m, ns, ss, as, rfl, _⟩ := h
    rfl
  · obtain ⟨r, u, v, z, m, ns, ss, as, rfl, hr0, hu, hv, hz, ok, k⟩ := h
    have hr1 := hr.mono (show 1 ≤ 2 by decide)
    refine ⟨_, PSs.nox <| pss_cons (ps_set (i := 1) scLl.nd rfl (.inl rfl) (pe_lstR (pa_cons (pe_op op_add_str pe_str (pe_join pe_str (pe_ix ix_list (pv 0) pe_int (fun _ _ => rfl)))) pa_nil)))
      <| pss_cons (ps_for PassesOwn.never rfl (pi_tup (pe_ix ix_list (pv 0) pe_int (fun _ _ => rfl))) (pg_tup (by rfl) (pgs_cons (pg_name (i := 2) scLl.nd rfl (.inl rfl)) (pgs_cons (pg_name (i := 3) scLl.nd rfl (.inl rfl)) pgs_nil)))
          (pss_one (ps_expr (pe_bm PySem.F.plainAttrs_list PySem.F.slot_list_append PySem.F.type_list_append mt_append (pv 1) (pa_cons (pe_op op_add_str (pe_op op_add_str (pe_op op_add_str pe_str (pv 2)) pe_str) (pe_call GW hr1 (by rfl) gW FW.kp bW .nil pass0 (pa_cons (pv 3) pa_nil))) pa_nil)))))
      <| pss_cons (ps_for PassesOwn.never rfl (pi_tup (pe_ix ix_list (pv 0) pe_int (fun _ _ => rfl))) (pg_name (i := 4) scLl.nd rfl (.inl rfl))
          (pss_one (ps_set (i := 1) scLl.nd rfl (.inl rfl) (pe_op op_catR (pv 1) (pe_call GL hr (by rfl) gL FL.kp bL .nil pass0 (pa_cons (pv 4) pa_nil))))))
      <| pss_one (ps_ret (pv 1)), ?_⟩
    obtain ⟨a, xs, rfl, hs, ha⟩ := rp_tup (.inl hu)
    have ex := dp_strs ha
    subst ex
    obtain ⟨b, ys, rfl, hb, hbs⟩ := rp_tup (.inl hv)
    obtain ⟨c, zs, rfl, hc, hcs⟩ := rp_tup (.inl hz)
    have ly := dp_len hbs
    have lz := dp_len hcs
    rw [List.length_map] at ly lz
    have n3 := ok.n.three
    have s3 := ok.s.three
    have a5 := ok.a5
    have lv := lineV_len ok.n
    refine ⟨⟨_, rfl⟩, _, rfl, r, _, 0, _, rfl, rfl, SqL.of hr0, rfl, _, a, ns, rfl, rfl, .inr hs, ?_, _, _, rfl, rfl, sz9 ?_, (show 1 ≤ 1000 by decide), fun l H2 n2 => ?_⟩
    · have := lineV_sum ok.n
      rw [List.map_cons, List.sum_cons] at this
      rw [show (" " : Str).length = 1 by decide +kernel]
      omega
    · have := join_len " " ns
      have h2 := lineV_sum ok.n
      rw [List.map_cons, List.sum_cons] at h2
      rw [show (" " : Str).length = 1 by decide +kernel] at this
      rw [show ("vars " : Str).length = 5 by decide +kernel]
      omega
    replace n2 : New H l (.lst [.str (("vars " : Str) ++ Txt.join " " ns)]) H2 := n2
    rw [eV ok.n] at n2
    have g2 : Grow H l [lineV ns] H2 := ⟨n2.1, n2.2.2, n2.2.1⟩
    refine ⟨_, rfl, r, _, 1, _, rfl, rfl, SqL.of (g2.s _ _ hr0), rfl, b, rfl, ⟨_, Same.seqT g2.s hb⟩, for_tup (Pv := fun i σ H' => ∃ x2 x3 x4, σ = [some (.ref r), some (.ref l), x2, x3, x4] ∧ Grow H l (lineV ns :: (ss.take i).map lineS) H') ⟨_, _, _, rfl, g2⟩ (fun i σ H' _ ⟨_, _, _, _, g⟩ => Same.seqT g.s hb) ?_ ?_⟩
    · rintro i x σ H3 ex ⟨x2, x3, x4, rfl, g3⟩
      obtain ⟨sy, es, hx⟩ := map_at hbs ex
      have hsy := ok.s.sy sy (List.mem_of_getElem? es)
      obtain ⟨p, ws, rfl, hp, hws⟩ := rp_tup (.inl hx)
      cases hws with
      | @cons w0 _ _ _ z0 hw1 =>
      cases hw1 with
      | @cons w1 _ _ _ z1 hw2 =>
      cases hw2
      cases z0
      obtain ⟨k1, k2⟩ := say_parts hsy
      have l8 := name_len8 k1
      have lw := words_len (okF_of ok.m3 k2)
      have b1 : ("say " : Str).length = 4 := by decide +kernel
      have b2 : (" " : Str).length = 1 := by decide +kernel
      refine ⟨p, _, rfl, Same.seqT g3.s hp, rfl, _, _, rfl, _, _, rfl, rfl, ?_⟩
      refine ⟨_, rfl, .inl ⟨rfl, _, SqL.of g3.e⟩, _, rfl, _, _, rfl, rfl, sz9 (by omega), _, _, rfl, rfl, sz9 (by rw [len_app]; omega), _, rfl, w1, sy.2, rfl, dp_same g3.s _ z1, okF_of ok.m3 k2, fun H4 s4 => ⟨_, _, rfl, rfl, sz9 (by rw [len_app, len_app]; omega), ?_⟩⟩
      have g4 := g3.keep s4
      rw [eS]
      refine ⟨l, _, _, rfl, rfl, g4.e, small1000 (by rw [List.length_map, List.length_cons, List.length_map, List.length_take]; omega), ?_⟩
      refine ⟨_, _, _, rfl, ?_⟩
      have g5 := g4.put (lineS sy)
      have e5 : lineV ns :: (ss.take i).map lineS ++ [lineS sy] = lineV ns :: (ss.take (i + 1)).map lineS := by
        rw [List.take_add_one, es, List.cons_append]
        simp
      rw [e5] at g5
      exact g5
    · rintro σ H3 ⟨x2, x3, x4, rfl, g3⟩
      rw [ly, List.take_length] at g3
      refine ⟨_, rfl, r, _, 2, _, rfl, rfl, SqL.of (g3.s _ _ hr0), rfl, c, rfl, ⟨_, Same.seqT g3.s hc⟩, for_tup (Pv := fun i σ H' => ∃ (l : Addr) (x2 x3 x4 : Option V), σ = [some (.ref r), some (.ref l), x2, x3, x4] ∧ Same H H' ∧ H' l = some (.lst ((linesS ns ss (as.take i)).map V.str))) ⟨l, _, _, _, rfl, g3.s, ?_⟩ (fun i σ H' _ ⟨_, _, _, _, _, s, _⟩ => Same.seqT s hc) ?_ ?_⟩
      · rw [g3.e]
        unfold linesS
        simp
      · rintro i x σ H4 ex ⟨l, x2, x3, x4, rfl, s4, h4⟩
        obtain ⟨ar, ea, hx⟩ := map_at hcs ex
        have har := ok.arm ar (List.mem_of_getElem? ea)
        have okI : OkT m ns ss (as.take i) := ⟨ok.m3, ok.n, ok.s, by rw [List.length_take]; omega, fun a ha => ok.arm a (List.mem_of_mem_take ha)⟩
        have lI := lines_len okI
        have lA := armL_len har
        refine ⟨_, rfl, _, rfl, x, m, ar, rfl, ok.m3, har, dp_same s4 _ hx, fun q H5 s5 hq => ?_⟩
        refine ⟨l, q, _, _, rfl, rfl, s5 _ _ h4, hq, by rw [List.length_map, List.length_map]; omega, fun l2 H6 n6 => ?_⟩
        refine ⟨l2, _, _, _, rfl, s4.trans (s5.trans n6.2.2), ?_⟩
        rw [n6.2.1, List.take_add_one, ea]
        unfold linesS
        simp
      · rintro σ H4 ⟨l, x2, x3, x4, rfl, s4, h4⟩
        rw [lz, List.take_length] at h4
        exact ⟨_, rfl, k _ H4 s4 ⟨l, rfl, h4⟩⟩
theorem scLs : FnScope ["_law_parts_here"] ["_law_parts_here"] (defScope sLs) := ⟨rfl, rfl, rfl, by decide +kernel, rfl, by decide +kernel, by decide +kernel⟩
theorem ok_ls {fW fL fN : Addr} {dW dL dN : FuncData} (F : FnP K "_law_sheet" sLs f fd) (T : Mo mg) (FW : FnP K "_law_words" sLw fW dW) (gW : mg "_law_words" = some (.ref fW)) (FL : FnP K "_law_arm_lines" sLa fL dL) (gL : mg "_law_arm_lines" = some (.ref fL)) (FN : FnP K "_law_lines" sLl fN dN) (gN : mg "_law_lines" = some (.ref fN)) : FnOk P w K mg base CX0 4 f fd ["_law_parts_here"] (spLl K fun ns ss as y _ => y = .str (textS ns ss as)) := by
  have GN : FnOk P w K mg base CX0 3 fN dN ["_law_parts_here"] (spLl K fun ns ss as y H' => ∃ q, y = .ref q ∧ H' q = some (.lst ((linesS ns ss as).map V.str))) := ok_ll FN T FW gW FL gL
  have bN : Binds K dN ["_law_parts_here"] [] := FN.bindsN fun _ _ _ _ _ _ us hl => match us, hl with | [_], _ => rfl
  refine F.ok scLs (fun vs H Q E h => ?_) (fun cdv A outer s H vs Q E hr h => ?_)
  · obtain ⟨r, u, v, z, m, ns, ss, as, rfl, _⟩ := h
    rfl
  · obtain ⟨r, u, v, z, m, ns, ss, as, rfl, hr0, hu, hv, hz, ok, k⟩ := h
    refine ⟨_, PSs.nox <| pss_one (ps_ret (pe_join pe_str (pe_call GN hr (by rfl) gN FN.kp bN .nil pass0 (pa_cons (pv 0) pa_nil)))), ?_⟩
    refine ⟨⟨_, rfl⟩, _, rfl, r, u, v, z, m, ns, ss, as, rfl, hr0, hu, hv, hz, ok, fun y H1 s1 hy => ?_⟩
    obtain ⟨q, rfl, hq⟩ := hy
    have h1 := lines_sum ok
    have h2 := lines_len ok
    refine ⟨_, q, linesS ns ss as, rfl, rfl, .inl (SqL.of hq), ?_, k _ H1 s1 rfl⟩
    rw [show ("\n" : Str).length = 1 by decide +kernel]
    omega
end
end Pg
set_option Elab.async false
set_option linter.all false
set_option maxRecDepth 100000
set_option maxHeartbeats 8000000
namespace K5
open PySem PySem.Spec PyProof.Rows L2 Gd Rl
open Pg (Arm namesD saysD armsD OkP ProgAt Mo Defs Mkr FunP sIni sRd spIni spRd spLl sLs sLw sLa sLl nolD)
abbrev sBuilt : Stmt := top 47
/-- read, found by the class's name -/
structure Rdr (K : PySem.W.Frag) (C mcp fRd : Addr) (mc : Value) (dRd : FuncData) : Prop where
  r : ClX.CRead K C mc
  m : ClX.CMet K C mc "read" mcp fRd
  f : FunP K "read" "Program.read" sRd fRd dRd
/-- where the law's texts stand -/
structure Tx (K : PySem.W.Frag) (mg : Str → Option Value) (fLw fLa fLl fLs : Addr) (dLw dLa dLl dLs : FuncData) : Prop where
  w : FnP K "_law_words" sLw fLw dLw
  a : FnP K "_law_arm_lines" sLa fLa dLa
  l : FnP K "_law_lines" sLl fLl dLl
  s : FnP K "_law_sheet" sLs fLs dLs
  gw : mg "_law_words" = some (.ref fLw)
  ga : mg "_law_arm_lines" = some (.ref fLa)
  gl : mg "_law_lines" = some (.ref fLl)
  gs : mg "_law_sheet" = some (.ref fLs)
theorem nol_n (ns : List Str) : nolD (namesD ns) = true := by
  unfold Pg.namesD
  rw [nolD]
  exact Pg.nol_map (fun _ => rfl) ns
theorem nol_a (as : List Arm) : nolD (armsD as) = true := by
  unfold Pg.armsD
  rw [nolD]
  exact Pg.nol_map Pg.nol_arm as
theorem kb_ini {K : PySem.W.Frag} {f : Addr} {fd : FuncData} (F : FunP K "__init__" "Program.__init__" sIni f fd) : KBn K fd ["self", "names", "sayings", "branches"] 1 ["branches", "names", "sayings"] (fun us ws => us ++ (ws.drop 1 ++ ws.take 1)) (fun vs zs => vs ++ (zs.drop 1 ++ zs.take 1)) := by
  obtain ⟨oc, od, dV, kV, doc, pm, an, cdv, ct, osl, rfl, lk, hcd, hD, hK⟩ := F.ex
  rcases hD with ⟨_, rfl⟩ | ⟨e, _⟩
  · exact ⟨fun s us ws _ l1 l2 => match us, ws, l1, l2 with | [_], [_, _, _], _, _ => .of_eq rfl, fun r1 r2 => r1.append ((r2.drop 1).append (r2.take 1))⟩
  · exact absurd rfl e
section
variable {P : Program} {w : World} {K : PySem.W.Frag} {mg : Str → Option Value} {base : Heap} {f C : Addr} {fd : FuncData}
variable {fI fN fF fS fU fCN fCS fCB fY fB fP fX fW fA fO : Addr} {dI dN dF dS dU dCN dCS dCB dY dB dP dX dW dA dO : FuncData}
def spBuilt (K : PySem.W.Frag) (C : Addr) : Sp := fun vs H Q _ => ∃ (p r : Addr) (u v z : V) (ns : List Str) (ss : List (Str × List Int)) (as : List Arm), vs = [.ref p, .ref r] ∧ r ≠ p ∧ Pail H p ∧ H r = some (.lst [u, v, z]) ∧ Dp K H u (namesD ns) ∧ Dp K H v (saysD ss) ∧ Dp K H z (armsD as) ∧ OkP ns ss as ∧
  ∀ x H', Pail H' p → But p H H' → ProgAt K C H' x ns ss as → Q (.ref x) H'
theorem scBuilt : FnScope ["_law_pail", "_law_parts_here", "_law_way"] ["_law_pail", "_law_parts_here"] (defScope sBuilt) := ⟨rfl, rfl, rfl, by decide +kernel, rfl, by decide +kernel, by decide +kernel⟩
theorem ok_built {fC fIni fStr mcp fRd fLw fLa fLl fLs : Addr} {mc : Value} {dC dIni dStr dRd dLw dLa dLl dLs : FuncData} (F : FnP K "_law_built" sBuilt f fd) (T : Bl mg) (M0 : Mo mg) (FC : FnP K "_law_cast" sCast fC dC) (gC : mg "_law_cast" = some (.ref fC))
    (X : Pg.Txt K mg C) (D : Defs K mg fI fN fF fS fU fCN fCS fCB fY fB fP fX fW fA fO dI dN dF dS dU dCN dCS dCB dY dB dP dX dW dA dO) (M : Mkr K C fIni fStr dIni dStr) (Z : Rdr K C mcp fRd mc dRd) (L : Tx K mg fLw fLa fLl fLs dLw dLa dLl dLs) : FnOk P w K mg base CX0 10 f fd ["_law_pail", "_law_parts_here"] (spBuilt K C) := by
  have GC : FnOk P w K mg base CX0 1 fC dC ["_law_pail", "_law_many"] spCast := ok_cast FC T
  have bC : Binds K dC ["_law_pail", "_law_many"] [] := FC.bindsN fun _ _ _ _ _ _ us hl => match us, hl with | [_, _], _ => rfl
  have GI : FnOk P w K mg base CX0 7 fIni dIni ["self", "names", "sayings", "branches"] (spIni K C) := Pg.ok_ini M.i M0 X D
  have bI : Binds K dIni ["self", "names", "sayings", "branches"] [] := M.i.bindsN fun _ _ _ _ _ _ us hl => match us, hl with | [_, _, _, _], _ => rfl
  have GR : FnOk P w K mg base CX0 9 fRd dRd ["cls", "text"] (spRd K C) := Pg.ok_rd Z.f M0 X D M
  have bR : Binds K dRd ["cls", "text"] [] := Z.f.bindsN fun _ _ _ _ _ _ us hl => match us, hl with | [_, _], _ => rfl
  have GS : FnOk P w K mg base CX0 4 fLs dLs ["_law_parts_here"] (spLl K fun ns ss as y _ => y = .str (Pg.textS ns ss as)) := Pg.ok_ls L.s M0 L.w L.gw L.a L.ga L.l L.gl
  have bS : Binds K dLs ["_law_parts_here"] [] := L.s.bindsN fun _ _ _ _ _ _ us hl => match us, hl with | [_], _ => rfl
  refine F.ok scBuilt (fun vs H Q E h => ?_) (fun cdv A outer s H vs Q E hr h => ?_)
  · obtain ⟨p, r, u, v, z, ns, ss, as, rfl, _⟩ := h
    rfl
  · obtain ⟨p, r, u, v, z, ns, ss, as, rfl, rp, hp, hr0, hu, hv, hz, ok, k⟩ := h
    have hr1 := hr.mono (show 1 ≤ 9 by decide)
    have hr7 := hr.mono (show 8 ≤ 9 by decide)
    have hr4 := hr.mono (show 4 ≤ 9 by decide)
    refine ⟨_, PSs.nox <| pss_cons (ps_set (i := 2) scBuilt.nd rfl (.inl rfl) (pe_call GC hr1 (by rfl) gC FC.kp bC .nil pass0 (pa_cons (pv 0) (pa_cons pe_int pa_nil))))
      <| pss_cons (ps_if (pt_cmpR op_eq (pv 2) pe_int (nomark _)) (pss_one (ps_ret (pe_make M.m GI hr7 (by rfl) X.g bI .nil pass0 (pa_cons (pe_ix ix_list (pv 1) pe_int (fun _ _ => rfl)) (pa_cons (pe_ix ix_list (pv 1) pe_int (fun _ _ => rfl)) (pa_cons (pe_ix ix_list (pv 1) pe_int (fun _ _ => rfl)) pa_nil)))))) pss_nil)
      <| pss_one (ps_ret (pe_ifExp (pt_cmpR op_eq (pv 2) pe_int (nomark _)) (pe_makeK0 M.m GI hr7 (by rfl) X.g (kb_ini M.i) pass0 (pk_cons (pe_ix ix_list (pv 1) pe_int (fun _ _ => rfl)) (pk_cons (pe_ix ix_list (pv 1) pe_int (fun _ _ => rfl)) (pk_cons (pe_ix ix_list (pv 1) pe_int (fun _ _ => rfl)) pk_nil))))
          (ClX.pe_cmeth (pe_glob (v := .ref C) (by rfl) X.g rfl) Z.r Z.m (GR.raw bR .nil) hr pass0 (pa_cons (pe_call GS hr4 (by rfl) L.gs L.s.kp bS .nil pass0 (pa_cons (pv 1) pa_nil)) pa_nil)))), ?_⟩
    refine ⟨_, rfl, p, _, rfl, hp, by decide, by decide, fun j H1 j0 j1 hp1 b1 => ?_⟩
    have h1 := b1 r _ hr0 rp
    have nl := b1.nl hp
    have hu1 := dp_nl nl _ (nol_n ns) hu
    have hv1 := dp_nl nl _ (Pg.nol_says ss) hv
    have hz1 := dp_nl nl _ (nol_a as) hz
    have mk : ∀ {H2 : Hp} (hp2 : Pail H2 p) (b2 : But p H H2) (s2 : Same H1 H2) (x dx : Addr), H2 x = none → H2 dx = none → dx ≠ x → spIni K C [.ref x, u, v, z] (upd (upd H2 dx (.own x)) x (.ins C dx [])) (fun y H3 => y = .non ∧ Q (.ref x) H3) E0 := by
      intro H2 hp2 b2 s2 x dx nx ndx nex
      have s3 : Same H2 (upd (upd H2 dx (.own x)) x (.ins C dx [])) := fun q o e => by
        rw [upd_ne (ne_of_none e nx), upd_ne (ne_of_none e ndx)]
        exact e
      refine ⟨H2, x, dx, u, v, z, ns, ss, as, rfl, s3, nx, upd_same, Pg.dp_sameD s2 hu1, Pg.dp_sameD s2 hv1, Pg.dp_sameD s2 hz1, ok, fun H4 s4 g => ⟨rfl, ?_⟩⟩
      exact k x H4 (hp2.same s4) (b2.trans (but_same s4)) g
    refine ⟨_, rfl, rfl, _, rfl, ?_⟩
    refine ite2 (fun hc => ?_) (fun hc => ?_)
    · refine ⟨_, rfl, r, _, 0, _, rfl, rfl, SqL.of h1, rfl, _, rfl, r, _, 1, _, rfl, rfl, SqL.of h1, rfl, _, rfl, r, _, 2, _, rfl, rfl, SqL.of h1, rfl, ?_⟩
      exact fun x dx nx ndx nex => mk hp1 b1 (Same.refl _) x dx nx ndx nex
    · refine ⟨_, rfl, rfl, _, rfl, ?_⟩
      refine ite2 (fun hc2 => ?_) (fun hc2 => ?_)
      · refine ⟨_, rfl, r, _, 2, _, rfl, rfl, SqL.of h1, rfl, _, rfl, r, _, 0, _, rfl, rfl, SqL.of h1, rfl, _, rfl, r, _, 1, _, rfl, rfl, SqL.of h1, rfl, rfl, rfl, ?_⟩
        exact fun x dx nx ndx nex => mk hp1 b1 (Same.refl _) x dx nx ndx nex
      · refine ⟨rfl, _, rfl, r, u, v, z, _, ns, ss, as, rfl, h1, hu1, hv1, hz1, ok.t, fun y H2 s2 ey => ?_⟩
        subst ey
        refine ⟨ns, ss, as, rfl, ok, fun x H3 s3 g => ?_⟩
        exact k x H3 (hp1.same (s2.trans s3)) (b1.trans (but_same (s2.trans s3))) g
end
end K5
set_option Elab.async false
set_option linter.all false
set_option maxRecDepth 100000
set_option maxHeartbeats 8000000
namespace HT
open PySem PySem.Spec PyProof.Rows
/-! t[::-1] of a tuple -/
section
variable {prog : Program} {w : World} {A : Around} {E : Value → Shared → Prop} {s : Shared}
theorem sliceApplied_rev {sl : Addr} {vk : Value} {n : Nat} {Q : Int × Int × Nat → Shared → Prop} (hs : s.heap.IsSliceOf sl .none .none vk) (pk : IsPart vk (some (-1)))
    (h : Q ((n : Int) - 1, -1, n) s) : wpAny (model prog w) A (Builtin.Slice.sliceApplied (.ref sl) (pure (n : Int))) Q E s := by
  obtain ⟨os, hos, hcs, hds⟩ := id hs
  unfold Builtin.Slice.sliceApplied Builtin.Slice.sliceFields
  refine wpAny_bind (wpAny_bind (wpAny_field hos hds (x := .none) rfl (wpAny_bind (wpAny_field hos hds (x := .none) rfl (wpAny_bind (wpAny_field hos hds (x := vk) rfl (wpAny_pure ?_)))))))
  refine wpAny_bind (slicePart_ pk ?_)
  show wpAny _ _ (if ((-1 : Int) == 0) = true then _ else _) _ _ s
  rw [if_neg (by decide)]
  refine wpAny_bind (slicePart_none (wpAny_bind (slicePart_none (wpAny_bind (wpAny_pure ?_)))))
  show wpAny _ _ (match Builtin.Slice.sliceAdjust none none (-1) (n : Int) with | (lo, hi) => pure (lo, (-1 : Int), Builtin.Slice.slicePlaces lo hi (-1))) _ _ s
  have e : Builtin.Slice.sliceAdjust none none (-1) (n : Int) = ((n : Int) - 1, -1) := rfl
  rw [e]
  show wpAny _ _ (pure ((n : Int) - 1, (-1 : Int), Builtin.Slice.slicePlaces ((n : Int) - 1) (-1) (-1))) _ _ s
  have e2 : Builtin.Slice.slicePlaces ((n : Int) - 1) (-1) (-1) = n := by
    unfold Builtin.Slice.slicePlaces
    have h1 : ¬ ((-1 : Int) > 0) := by omega
    simp only [h1, if_false]
    split
    · rw [show (-(-1) : Int) = 1 from rfl, Int.ediv_one]
      omega
    · omega
  rw [e2]
  exact wpAny_pure h
theorem filter_at {α : Type} : ∀ (l : List Nat) (g : Nat → Option α) (k : Nat → α), (∀ m ∈ l, g m = some (k m)) → l.filterMap g = l.map k
  | [], _, _, _ => rfl
  | m :: l, g, k, h => by
    rw [List.filterMap_cons, h m (List.mem_cons_self ..), List.map_cons, filter_at l g k fun x hx => h x (List.mem_cons_of_mem _ hx)]
theorem pick_rev (xs : Array Value) : ((List.range xs.size).filterMap fun (m : Nat) => xs[(((xs.size : Nat) : Int) - 1 + (m : Int) * (-1)).toNat]?).toArray = xs.toList.reverse.toArray := by
  refine congrArg List.toArray ?_
  have e : ∀ m ∈ List.range xs.size, xs[(((xs.size : Nat) : Int) - 1 + (m : Int) * (-1)).toNat]? = some (xs.toList.reverse.getD m .none) := by
    intro m hm
    have hm := List.mem_range.mp hm
    have e1 : (((xs.size : Nat) : Int) - 1 + (m : Int) * (-1)).toNat = xs.size - 1 - m := by omega
    rw [e1, List.getD_eq_getElem?_getD, List.getElem?_reverse (by rw [Array.length_toList]; exact hm), Array.length_toList, Array.getElem?_toList, Array.getElem?_eq_getElem (by omega)]
    rfl
  rw [filter_at _ _ _ e]
  refine List.ext_getElem (by rw [List.length_map, List.length_range, List.length_reverse, Array.length_toList]) fun n h1 h2 => ?_
  rw [List.getElem_map, List.getElem_range, List.getD_eq_getElem?_getD, List.getElem?_eq_getElem h2]
  rfl
theorem getItem_tuple_rev {t sl : Addr} {items : Array Value} {vk : Value} {Q : Value → Shared → Prop} (ht : IsTup s.heap t items) (hs : s.heap.IsSliceOf sl .none .none vk) (pk : IsPart vk (some (-1)))
    (h : Q (.ref s.heap.objs.size) { s with heap := s.heap.push { cls := .type "tuple", data := .seq items.toList.reverse.toArray } })
    (hsz : items.size ≤ sizeLine) : wpAny (model prog w) A (getItem (.ref t) (.ref sl)) Q E s := by
  have htake : sizeOk (.seq items.toList.reverse.toArray) := by
    show items.toList.reverse.toArray.size ≤ sizeLine
    rw [List.size_toArray, List.length_reverse, Array.length_toList]
    exact hsz
  obtain ⟨os, hos, hcs, hds⟩ := id hs
  have hTs : s.TypeIs (.ref sl) "slice" := ⟨os, hos, hcs⟩
  unfold getItem
  try with_reducible refine wpAny_holding ?_
  first | refine wpAny_bind (wpAny_pure ?_) | skip
  refine wpAny_bind (wpAny_sequenceKey ht.typeIs (by decide) ?_)
  refine wpAny_bind (wpAny_callSpecial?_slot (name := Str.ofString "__getitem__") ht.typeIs PyProof.Rows.slot_tuple_getitem
    (wpAny_call_entry PyProof.Rows.slot_tuple_getitem ht.typeIs entry_tuple_getitem ?_ (args_tuple_getitem _ _)))
  show wpAny _ _ (Builtin.Tuple.tupleItemsOf (.ref t) >>= _) _ _ s
  refine wpAny_bind (tupleItemsOf_ ht ?_)
  refine wpAny_bind (wpAny_typeOf hTs ?_)
  rw [if_pos (by decide)]
  refine wpAny_bind (sliceApplied_rev hs pk ?_)
  have hno : ¬ (((((items.size : Nat) : Int) - 1) == 0 && (-1 : Int) == 1 && items.size == items.size) = true) := by
    intro q
    rw [Bool.and_eq_true, Bool.and_eq_true] at q
    exact absurd q.1.2 (by decide)
  show wpAny _ _ (if ((((items.size : Nat) : Int) - 1) == 0 && (-1 : Int) == 1 && items.size == items.size) = true then _ else _) _ _ s
  rw [if_neg hno, pick_rev]
  first
    | exact wpAny_bind (m := Builtin.Tuple.tupleExact _) (wpAny_newObj_type (wpAny_pure ⟨_, rfl, wpAny_pure h⟩) htake)
    | exact wpAny_bind (m := Builtin.Tuple.tupleExact _) (wpAny_newObj_type (wpAny_bind (wpAny_pure (wpAny_pure ⟨_, rfl, wpAny_pure h⟩))) htake)
    | exact wpAny_bind (wpAny_bind (m := Builtin.Tuple.tupleExact _) (wpAny_newObj_type (wpAny_pure (wpAny_pure ⟨_, rfl, wpAny_pure h⟩)) htake))
    | exact wpAny_bind (wpAny_bind (m := Builtin.Tuple.tupleExact _) (wpAny_newObj_type (wpAny_pure ⟨_, rfl, wpAny_pure h⟩) htake))
end
end HT
namespace L2
open PySem PySem.Spec PyProof.Rows
section
variable {X : Cx}
def tRevT (K : PySem.W.Frag) (te : TE) : TE := fun σ H Q => te σ H fun x H1 => ∃ a xs, x = .ref a ∧ SqT K H1 a xs ∧ ∀ p, H1 p = none → Q (.ref p) (upd H1 p (.tup xs.reverse))
theorem pe_revT {e : Expr} {te : TE} {k : Nat} {p1 p2 p3 pos : Pos} (he : PE X e te) : PE X (.Subscript e (.Slice none none (some (.UnaryOp .USub (.Constant (.int 1) k p1) p2)) p3) pos) (tRevT X.K te) := by
  refine ⟨fun pins s σ H Q I h => ?_⟩
  refine Subscript_ (thn (he.run pins s σ H _ I h) fun v s1 ⟨x, H1, I1, r1, q1⟩ => ?_)
  obtain ⟨a, xs, ex, hx, q⟩ := q1
  subst ex
  cases r1
  have hst : PO X (some (.UnaryOp .USub (.Constant (.int 1) k p1) p2)) (tPart (tUn (rU fun i => .int (-i)) (tC (.int 1)))) := po_some (pe_un un_neg pe_int)
  refine wpAny_Slice (thn (po_none.run pins s1 σ H1 (fun o H2 => o = none ∧ H2 = H1) I1 ⟨rfl, rfl⟩) fun vl s2 ⟨l, H2, I2, pl, el, e2⟩ => ?_)
  subst el e2
  refine thn (po_none.run pins s2 σ H2 (fun o H3 => o = none ∧ H3 = H2) I2 ⟨rfl, rfl⟩) fun vu s3 ⟨u, H3, I3, pu, eu, e3⟩ => ?_
  subst eu e3
  refine thn (hst.run pins s3 σ H3 (fun o H4 => o = some (-1) ∧ H4 = H3) I3 ⟨1, rfl, -1, rfl, rfl, rfl⟩) fun vs s4 ⟨o, H4, I4, ps, eo, e4⟩ => ?_
  subst eo e4
  cases pl
  cases pu
  have I5 : Inv X pins σ H4 { s4 with heap := s4.heap.push { cls := .type "slice", data := .fields #[.none, .none, vs] } } := I4.kept (t' := s4.toks) fun b ob q => Heap.get?_push_of_some _ q
  obtain ⟨its, r, ht, hz⟩ := I5.tuple hx
  have hlen := r.length
  show wpAny (model X.prog X.w) X.A (subscriptTail e (.Slice none none (some (.UnaryOp .USub (.Constant (.int 1) k p1) p2)) p3) (.ref a) (.ref s4.heap.objs.size)) (EP X pins σ Q) X.xe { s4 with heap := s4.heap.push { cls := .type "slice", data := .fields #[.none, .none, vs] } }
  refine tail_any (ops := [.ref a, .ref s4.heap.objs.size]) ht.typeIs (PyProof.Rows.slot_tuple_getitem.lookup) ?_ (by with_unfolding_all rfl)
  refine HT.getItem_tuple_rev ht (Heap.IsSliceOf.new _ .none .none vs) ps ?_ (by rw [List.size_toArray]; omega)
  refine ⟨.ref _, _, I5.laid (t' := s4.toks) (o := .tup xs.reverse) (fun b ob q => Heap.get?_push_of_some _ q) (Nat.le_refl _) ?_, rfl, q _ (I5.hok.fresh (Nat.le_refl _))⟩
  exact ⟨by rw [List.length_reverse]; exact hz, _, r.reverse, IsTup.new _ _⟩
end
end L2
set_option Elab.async false
set_option linter.all false
set_option maxRecDepth 100000
set_option maxHeartbeats 8000000
namespace K5
open PySem PySem.Spec PyProof.Rows L2 Gd Rl
open Pg (top FnP Mo nameS letS figS fD sayD saysD armD armsD namesD Arm ArmOk OkP OkN OkS OkA placesS standS firsts firstB rSlTR sl_tupR strs_at nolD)
abbrev sNear : Stmt := top 49
theorem firsts_snoc (l : List Str) (z : Str) : firsts (l ++ [z]) = if l.contains z = true then firsts l else firsts l ++ [z] := by
  unfold firsts
  rw [List.length_append, List.length_singleton, List.range_succ, List.filter_append, List.map_append]
  have e1 : ((List.range l.length).filter (firstB (l ++ [z]))).map (fun i => (l ++ [z]).getD i "") = ((List.range l.length).filter (firstB l)).map fun i => l.getD i "" := by
    have ef : (List.range l.length).filter (firstB (l ++ [z])) = (List.range l.length).filter (firstB l) := by
      apply List.filter_congr
      intro i hi
      have hi2 : i < l.length := List.mem_range.mp hi
      unfold firstB
      rw [List.take_append_of_le_length (Nat.le_of_lt hi2), List.getD_eq_getElem?_getD, List.getD_eq_getElem?_getD, List.getElem?_append_left hi2]
    rw [ef]
    apply List.map_congr_left
    intro i hi
    have hi2 : i < l.length := List.mem_range.mp (List.mem_filter.mp hi).1
    rw [List.getD_eq_getElem?_getD, List.getD_eq_getElem?_getD, List.getElem?_append_left hi2]
  have e2 : (l ++ [z]).getD l.length "" = z := by
    rw [List.getD_eq_getElem?_getD, List.getElem?_append_right (Nat.le_refl _), Nat.sub_self]
    rfl
  have e3 : firstB (l ++ [z]) l.length = !l.contains z := by
    unfold firstB
    rw [e2, List.take_left]
  rw [e1, List.filter_cons, e3]
  cases h : l.contains z with
  | true => simp
  | false =>
    simp only [Bool.not_false, if_true, List.filter_nil, List.map_cons, List.map_nil, e2]
    rw [if_neg Bool.false_ne_true]
theorem mem_firsts : ∀ (n : Nat) (l : List Str), l.length = n → ∀ z ∈ l, z ∈ firsts l
  | 0, l, h, z, hz => by
    rw [List.length_eq_zero_iff.mp h] at hz
    cases hz
  | n + 1, l, h, z, hz => by
    have hne : l ≠ [] := fun e => by rw [e] at h; cases h
    have e := List.dropLast_concat_getLast hne
    rw [← e] at hz ⊢
    rw [firsts_snoc]
    have hl : l.dropLast.length = n := by
      rw [List.length_dropLast, h]
      rfl
    by_cases hm : z ∈ l.dropLast
    · have ih := mem_firsts n l.dropLast hl z hm
      split
      · exact ih
      · exact List.mem_append_left _ ih
    · rcases List.mem_append.mp hz with hz | hz
      · exact absurd hz hm
      · have ez := List.mem_singleton.mp hz
        rw [if_neg]
        · exact List.mem_append_right _ hz
        · intro hc
          have : l.getLast hne ∈ l.dropLast := by simpa using hc
          exact hm (by rw [ez]; exact this)
theorem firsts_same (l : List Str) (z : Str) : (firsts l).contains z = l.contains z := by
  rw [Bool.eq_iff_iff]
  simp only [List.contains_iff_mem]
  exact ⟨fun h => firsts_mem z h, fun h => mem_firsts l.length l rfl z h⟩
theorem stand_mem {ss : List (Str × List Int)} {as : List Arm} {z : Str} : z ∈ standS ss as ↔ (∃ s ∈ ss, s.1 = z) ∨ (∃ a ∈ as, z = a.src ∨ z = a.tgt) := by
  unfold standS
  simp only [List.mem_append, List.mem_map, List.mem_flatten]
  constructor
  · rintro (⟨s, h1, h2⟩ | ⟨l, ⟨a, h1, rfl⟩, h2⟩)
    · exact .inl ⟨s, h1, h2⟩
    · simp only [List.mem_cons, List.not_mem_nil, or_false] at h2
      exact .inr ⟨a, h1, h2⟩
  · rintro (⟨s, h1, h2⟩ | ⟨a, h1, h2⟩)
    · exact .inl ⟨s, h1, h2⟩
    · exact .inr ⟨_, ⟨a, h1, rfl⟩, by simpa using h2⟩
theorem okA_sub {m : Nat} {ss ss' : List (Str × List Int)} {as as' : List Arm} (o : OkA m ss as) (h1 : 1 ≤ as'.length) (h5 : as'.length ≤ 5) (ok : ∀ a ∈ as', ArmOk m a) (hs : ∀ s ∈ ss', s ∈ ss) (ha : ∀ a ∈ as', ∃ b ∈ as, (a.src = b.src ∨ a.src = b.tgt) ∧ (a.tgt = b.src ∨ a.tgt = b.tgt)) : OkA m ss' as' := by
  refine ⟨h1, h5, ok, Nat.le_trans (pigeon (firsts_nodup _) fun z hz => mem_firsts _ _ rfl z ?_) o.pl⟩
  rcases stand_mem.mp (firsts_mem z hz) with ⟨s, q1, q2⟩ | ⟨a, q1, q2⟩
  · exact stand_mem.mpr (.inl ⟨s, hs s q1, q2⟩)
  · obtain ⟨b, hb, e1, e2⟩ := ha a q1
    refine stand_mem.mpr (.inr ⟨b, hb, ?_⟩)
    rcases q2 with rfl | rfl
    · exact e1
    · exact e2
theorem okS_sub {m : Nat} {ss ss' : List (Str × List Int)} (o : OkS m ss) (h : ss'.length ≤ 3) (hs : ∀ s ∈ ss', s ∈ ss) : OkS m ss' := ⟨h, fun s q => o.sy s (hs s q)⟩
/-- the first sign put otherwise -/
def qS (z : Str) : Str := "q" ++ cutS z (some 1) none
theorem name_q {z : Str} (h : nameS z = true) : nameS (qS z) = true := by
  unfold nameS at h
  cases e : z.cps.toList with
  | nil =>
    rw [e] at h
    cases h
  | cons c r =>
    rw [e] at h
    have lz : z.length = r.length + 1 := by
      have : z.length = z.cps.toList.length := by
        rw [Array.length_toList]
        rfl
      rw [this, e]
      rfl
    have ec : (qS z).cps.toList = 113 :: r := by
      have e1 : (cutS z (some 1) none).cps.toList = r := by
        show ((z.cps.toList.drop (HT.sIx z.length 0 (some ((1 : Nat) : Int)))).take (HT.sIx z.length z.length none - HT.sIx z.length 0 (some ((1 : Nat) : Int)))).toArray.toList = r
        rw [HT.sIx_nat, HT.sIx_none, e, lz, Nat.min_eq_left (by omega)]
        simp
      show (("q" : Str).cps ++ (cutS z (some 1) none).cps).toList = 113 :: r
      rw [Array.toList_append, e1]
      rfl
    simp only [Bool.and_eq_true, decide_eq_true_eq, List.all_cons] at h
    unfold nameS
    rw [ec]
    simp only [Bool.and_eq_true, decide_eq_true_eq, List.all_cons]
    exact ⟨h.1, by decide +kernel, by decide +kernel, h.2.2.2⟩
theorem and_fall {b : Bool} {tc : TT} {t1 t2 : TS} {D : Ends} {σ : L2.St} {H : Hp} (rest : t2 D σ H) (h1 : b = true → t2 D σ H → tc σ H fun c H1 => if c = true then t1 D σ H1 else t2 D σ H1) : if b = true then tc σ H (fun c H1 => if c = true then t1 D σ H1 else t2 D σ H1) else (if false = true then t1 D σ H else t2 D σ H) := by
  cases b with
  | true => exact iteT (h1 rfl rest)
  | false => exact iteF (iteF rest)
def spNear (K : PySem.W.Frag) : Sp := fun vs H Q _ => ∃ (p r : Addr) (u v z : V) (ns : List Str) (ss : List (Str × List Int)) (as : List Arm), vs = [.ref p, .ref r] ∧ r ≠ p ∧ Pail H p ∧ H r = some (.lst [u, v, z]) ∧ Dp K H u (namesD ns) ∧ Dp K H v (saysD ss) ∧ Dp K H z (armsD as) ∧ OkP ns ss as ∧
  ∀ (r' : Addr) (u' v' z' : V) (ns' : List Str) (ss' : List (Str × List Int)) (as' : List Arm) (H' : Hp), r' ≠ p → OkP ns' ss' as' → H' r' = some (.lst [u', v', z']) → Dp K H' u' (namesD ns') → Dp K H' v' (saysD ss') → Dp K H' z' (armsD as') → Pail H' p → But p H H' → Q (.ref r') H'
abbrev nNear : List Str := ["_law_pail", "_law_parts_here", "_law_tags_here", "_law_says", "_law_arms", "_law_way", "_law_at", "_law_near_here", "_law_far", "_law_asks", "_law_turns", "_law_bent"]
theorem scNear : FnScope nNear ["_law_pail", "_law_parts_here"] (defScope sNear) := ⟨rfl, rfl, rfl, by decide +kernel, rfl, by decide +kernel, by decide +kernel⟩
theorem dp_app {K : PySem.W.Frag} {H : Hp} : ∀ {xs ys : List V} {ds es : List PyData}, DpAll K H xs ds → DpAll K H ys es → DpAll K H (xs ++ ys) (ds ++ es)
  | _, _, _, _, .nil, q => q
  | _, _, _, _, .cons a b, q => .cons a (dp_app b q)
theorem dp_dropA {K : PySem.W.Frag} {H : Hp} : ∀ (i : Nat) {xs : List V} {ds : List PyData}, DpAll K H xs ds → DpAll K H (xs.drop i) (ds.drop i)
  | 0, _, _, h => h
  | i + 1, _, _, .nil => .nil
  | i + 1, _, _, .cons a b => dp_dropA i b
theorem dp_revA {K : PySem.W.Frag} {H : Hp} : ∀ {xs : List V} {ds : List PyData}, DpAll K H xs ds → DpAll K H xs.reverse ds.reverse
  | _, _, .nil => .nil
  | _, _, .cons a b => by
    rw [List.reverse_cons, List.reverse_cons]
    exact dp_app (dp_revA b) (.cons a .nil)
theorem cut_dropA {xs : List V} {i : Nat} : cutV xs (some (i : Int)) none = xs.drop i := by
  unfold cutV
  rw [HT.sIx_none, HT.sIx_nat]
  rcases Nat.le_total i xs.length with h | h
  · rw [Nat.min_eq_left h]
    exact List.take_of_length_le (by rw [List.length_drop]; exact Nat.le_refl _)
  · rw [Nat.min_eq_right h, List.drop_length, List.drop_eq_nil_of_le h, List.take_nil]
theorem cut_takeA {xs : List V} {i : Nat} : cutV xs none (some (i : Int)) = xs.take i := by
  rcases Nat.le_total i xs.length with h | h
  · exact Pg.cut_take h
  · unfold cutV
    rw [HT.sIx_none, HT.sIx_nat, Nat.min_eq_right h, List.drop_zero, Nat.sub_zero, List.take_length, List.take_of_length_le h]
theorem catA_st {K : PySem.W.Frag} {H : Hp} {a b : Addr} {xs ys : List V} {Q : VK} (ha : SqT K H a xs) (hb : SqT K H b ys) (hl : xs.length + ys.length ≤ 1000) (h : ∀ r H', Same H H' → SqT K H' r (xs ++ ys) → Q (.ref r) H') : rCatA K (.ref a) (.ref b) H Q := by
  refine ⟨a, b, xs, ys, rfl, rfl, ha, hb, sz1000 (by omega), fun e0 => ?_, fun n0 e0 => ?_, fun n0 n1 p np => ?_⟩
  · subst e0
    exact h _ H (Same.refl _) hb
  · subst e0
    exact h _ H (Same.refl _) (by rw [List.append_nil]; exact ha)
  · exact h _ _ (same_new (o := .tup (xs ++ ys)) np) (SqT.of upd_same)
theorem mem_cut {α : Type} {l : List α} {i : Nat} {b x : α} (h : x ∈ l.take i ++ [b] ++ l.drop (i + 1)) : x ∈ l ∨ x = b := by
  rcases List.mem_append.mp h with h | h
  · rcases List.mem_append.mp h with h | h
    · exact .inl (List.mem_of_mem_take h)
    · exact .inr (List.mem_singleton.mp h)
  · exact .inl (List.mem_of_mem_drop h)
section
variable {P : Program} {w : World} {K : PySem.W.Frag} {mg : Str → Option Value} {base : Heap} {f : Addr} {fd : FuncData}
theorem ok_near {fC : Addr} {dC : FuncData} (F : FnP K "_law_near" sNear f fd) (T : Bl mg) (FC : FnP K "_law_cast" sCast fC dC) (gC : mg "_law_cast" = some (.ref fC)) : FnOk P w K mg base CX0 2 f fd ["_law_pail", "_law_parts_here"] (spNear K) := by
  have GC : FnOk P w K mg base CX0 1 fC dC ["_law_pail", "_law_many"] spCast := ok_cast FC T
  have bC : Binds K dC ["_law_pail", "_law_many"] [] := FC.bindsN fun _ _ _ _ _ _ us hl => match us, hl with | [_, _], _ => rfl
  refine F.ok scNear (fun vs H Q E h => ?_) (fun cdv A outer s H vs Q E hr h => ?_)
  · obtain ⟨p, r, u, v, z, ns, ss, as, rfl, _⟩ := h
    rfl
  · obtain ⟨p, r, u, v, z, ns, ss, as, rfl, rp, hp, er, hu, hv, hz, ok, k⟩ := h
    refine ⟨_, PSs.nox <| pss_cons (ps_asg (pv 1) (pg_lst (by rfl) (pgs_cons (pg_name (i := 2) scNear.nd rfl (.inl rfl)) (pgs_cons (pg_name (i := 3) scNear.nd rfl (.inl rfl)) (pgs_cons (pg_name (i := 4) scNear.nd rfl (.inl rfl)) pgs_nil)))))
      <| pss_cons (ps_par (i := 5) (j := 6) rfl scNear.nd rfl rfl (by decide) rfl rfl (pa_cons (pe_call GC hr (by rfl) gC FC.kp bC .nil pass0 (pa_cons (pv 0) (pa_cons pe_int pa_nil))) (pa_cons (pe_call GC hr (by rfl) gC FC.kp bC .nil pass0 (pa_cons (pv 0) (pa_cons (pe_callB call_len (by rfl) T.len PySem.boot_len (pa_cons (pv 4) pa_nil)) pa_nil))) pa_nil)) (by rfl))
      <| pss_cons (ps_asg (pe_ix (r := rIxT K) ix_tup (pv 4) (pv 6) (fun _ _ => rfl)) (pg_tup (by rfl) (pgs_cons (pg_name (i := 7) scNear.nd rfl (.inl rfl)) (pgs_cons (pg_name (i := 8) scNear.nd rfl (.inl rfl)) (pgs_cons (pg_name (i := 9) scNear.nd rfl (.inl rfl)) (pgs_cons (pg_name (i := 10) scNear.nd rfl (.inl rfl)) pgs_nil))))))
      <| pss_cons (ps_if (PW.pt (pw_and (pt_cmpR op_eq (pv 5) pe_int (nomark _)) (pw_and1 (pt_cmpR op_gt (pe_callB call_len (by rfl) T.len PySem.boot_len (pa_cons (pv 4) pa_nil)) pe_int (nomark _))))) (pss_one (ps_ret (pe_lstR (pa_cons (pv 2) (pa_cons (pv 3) (pa_cons (pe_op op_catA (pe_slice (r := rSlTR K) sl_tupR (pv 4) po_none (po_some (pv 6))) (pe_slice (r := rSlTR K) sl_tupR (pv 4) (po_some (pe_op op_add (pv 6) pe_int)) po_none)) pa_nil)))))) pss_nil)
      <| pss_cons (ps_if (pt_cmpR op_eq (pv 5) pe_int (nomark _)) (pss_one (ps_ret (pe_lstR (pa_cons (pv 2) (pa_cons (pe_revT (pv 3)) (pa_cons (pv 4) pa_nil)))))) pss_nil)
      <| pss_cons (ps_if (pt_cmpR op_eq (pv 5) pe_int (nomark _)) (pss_one (ps_ret (pe_lstR (pa_cons (pv 2) (pa_cons (pv 3) (pa_cons (pe_revT (pv 4)) pa_nil)))))) pss_nil)
      <| pss_cons (ps_if (pt_cmpR op_eq (pv 5) pe_int (nomark _)) (pss_one (ps_ret (pe_ifExp (pt_cmpR (r := rIn K true) op_notIn_seq (pe_op op_add_str pe_str (pe_slice sl_str (pe_ix (r := rIxT K) ix_tup (pv 2) pe_int (fun _ _ => rfl)) (po_some pe_int) po_none)) (pv 2) (by rfl)) (pe_lstR (pa_cons (pe_op op_catA (pe_tupR (pa_cons (pe_op op_add_str pe_str (pe_slice sl_str (pe_ix (r := rIxT K) ix_tup (pv 2) pe_int (fun _ _ => rfl)) (po_some pe_int) po_none)) pa_nil)) (pe_slice (r := rSlTR K) sl_tupR (pv 2) (po_some pe_int) po_none)) (pa_cons (pv 3) (pa_cons (pv 4) pa_nil)))) (pv 1)))) pss_nil)
      <| pss_cons (ps_if (PW.pt (pw_and (pt_cmpR op_eq (pv 5) pe_int (nomark _)) (pw_and1 (pt_cmpR op_lt (pe_callB call_abs (by rfl) T.abs (by decide +kernel) (pa_cons (pe_ix (r := rIxT K) ix_tup (pe_ix (r := rIxT K) ix_tup (pv 10) pe_int (fun _ _ => rfl)) pe_int (fun _ _ => rfl)) pa_nil)) (pe_op op_pow pe_int pe_int) (nomark _)))))
          (pss_cons (ps_set (i := 11) scNear.nd rfl (.inl rfl) (pe_tupR (pa_cons (pv 7) (pa_cons (pv 8) (pa_cons (pv 9) (pa_cons (pe_op op_catA (pe_tupR (pa_cons (pe_op op_catA (pe_tupR (pa_cons (pe_op op_add (pe_ix (r := rIxT K) ix_tup (pe_ix (r := rIxT K) ix_tup (pv 10) pe_int (fun _ _ => rfl)) pe_int (fun _ _ => rfl)) pe_int) pa_nil)) (pe_slice (r := rSlTR K) sl_tupR (pe_ix (r := rIxT K) ix_tup (pv 10) pe_int (fun _ _ => rfl)) (po_some pe_int) po_none)) pa_nil)) (pe_slice (r := rSlTR K) sl_tupR (pv 10) (po_some pe_int) po_none)) pa_nil)))))) <| pss_one (ps_ret (pe_lstR (pa_cons (pv 2) (pa_cons (pv 3) (pa_cons (pe_op op_catA (pe_op op_catA (pe_slice (r := rSlTR K) sl_tupR (pv 4) po_none (po_some (pv 6))) (pe_tupR (pa_cons (pv 11) pa_nil))) (pe_slice (r := rSlTR K) sl_tupR (pv 4) (po_some (pe_op op_add (pv 6) pe_int)) po_none)) pa_nil)))))) pss_nil)
      <| pss_cons (ps_if (pt_cmpR op_eq (pv 5) pe_int (nomark _)) (pss_one (ps_ret (pe_lstR (pa_cons (pv 2) (pa_cons (pv 3) (pa_cons (pe_op op_catA (pe_op op_catA (pe_slice (r := rSlTR K) sl_tupR (pv 4) po_none (po_some (pv 6))) (pe_tupR (pa_cons (pe_tupR (pa_cons (pv 7) (pa_cons (pv 7) (pa_cons (pv 9) (pa_cons (pv 10) pa_nil))))) pa_nil))) (pe_slice (r := rSlTR K) sl_tupR (pv 4) (po_some (pe_op op_add (pv 6) pe_int)) po_none)) pa_nil)))))) pss_nil)
      <| pss_one (ps_ret (pv 1)), ?_⟩
    refine ⟨_, rfl, r, _, rfl, SqL.of er, rfl, _, _, rfl, _, _, rfl, _, _, rfl, rfl, ?_⟩
    refine ⟨_, rfl, p, _, rfl, hp, by decide, by decide, fun wy H1 w0 w1 hp1 b1 => ?_⟩
    obtain ⟨za, zs, rfl, hza0, hzs0⟩ := Pg.rp_tup (.inl hz)
    have lz := Pg.dp_len' hzs0
    rw [List.length_map] at lz
    have n1 := ok.a.one
    have n5 := ok.a.five
    have hza1 := seqT_nl (b1.nl hp) hza0
    refine ⟨_, rfl, _, rfl, _, _, rfl, .inr ⟨_, hza1, rfl⟩, p, _, rfl, hp1, by omega, by omega, fun at0 H2 a0 a1 hp2 b2 => ⟨_, _, rfl, ?_⟩⟩
    obtain ⟨j, rfl⟩ := Int.eq_ofNat_of_zero_le a0
    have hj : j < as.length := by omega
    have b02 := b1.trans b2
    have nl2 := b02.nl hp
    have er2 := b02 r _ er rp
    have hu2 := dp_nl nl2 _ (nol_n ns) hu
    have hv2 := dp_nl nl2 _ (Pg.nol_says ss) hv
    have hz2 := dp_nl nl2 _ (nol_a as) hz
    obtain ⟨_, zs2, ez, hza, hzs⟩ := Pg.rp_tup (.inl hz2)
    cases ez
    have lz2 := Pg.dp_len' hzs
    rw [List.length_map] at lz2
    clear hz hza0 hzs0 hza1 b1 b2 hp1 lz hu hv nl2
    obtain ⟨zj, ezj⟩ : ∃ zj, zs2[j]? = some zj := ⟨_, List.getElem?_eq_getElem (by omega)⟩
    obtain ⟨ar, ear, har⟩ := Pg.map_at hzs ezj
    have oar := ok.a.arm ar (List.mem_of_getElem? ear)
    obtain ⟨ja, ws, rfl, hja, hws⟩ := Pg.rp_tup (.inl har)
    cases hws with
    | @cons w0' _ _ _ q0 hws =>
    cases hws with
    | @cons w1' _ _ _ q1 hws =>
    cases hws with
    | @cons w2 _ _ _ q2 hws =>
    cases hws with
    | @cons w3 _ _ _ q3 hws =>
    cases hws
    cases q0
    cases q1
    refine ⟨_, rfl, _, rfl, za, _, _, _, rfl, rfl, hza, atI_nat ezj, ja, _, rfl, hja, rfl, _, _, rfl, _, _, rfl, _, _, rfl, _, _, rfl, rfl, ?_⟩
    have ret : ∀ {H3 : Hp} (s3 : Same H2 H3) (u' v' z' : V) (ns' : List Str) (ss' : List (Str × List Int)) (as' : List Arm), OkP ns' ss' as' → Dp K H3 u' (namesD ns') → Dp K H3 v' (saysD ss') → Dp K H3 z' (armsD as') → (3 ≤ 1000 ∧ ∀ l H4, New H3 l (.lst [u', v', z']) H4 → Q (.ref l) H4) := fun s3 u' v' z' ns' ss' as' ok' du dv dz => ⟨by decide, fun l H4 n4 => k l u' v' z' ns' ss' as' H4 ((hp2.same s3).ne n4.1).symm ok' n4.2.1 (dp_same n4.2.2 _ du) (dp_same n4.2.2 _ dv) (dp_same n4.2.2 _ dz) ((hp2.same s3).same n4.2.2) (b02.trans (but_same (s3.trans n4.2.2)))⟩
    have same : Q (.ref r) H2 := k r u v (.ref za) ns ss as H2 rp ok er2 hu2 hv2 hz2 hp2 b02
    -- one branch put otherwise
    have put : ∀ {H3 : Hp} (s3 : Same H2 H3) (x : V) (a : Arm), ArmOk ns.length a → (a.src = ar.src ∧ (a.tgt = ar.tgt ∨ a.tgt = ar.src)) → Dp K H3 x (armD a) → ∀ r H4, Same H3 H4 → SqT K H4 r (zs2.take j ++ [x] ++ zs2.drop (j + 1)) → OkP ns ss (as.take j ++ [a] ++ as.drop (j + 1)) ∧ Dp K H4 (.ref r) (armsD (as.take j ++ [a] ++ as.drop (j + 1))) := fun s3 x a oa ea dx r H4 s4 hr4 => by
      have lt : (as.take j ++ [a] ++ as.drop (j + 1)).length = as.length := by
        rw [List.length_append, List.length_append, List.length_take, List.length_drop, List.length_singleton]
        omega
      refine ⟨⟨ok.n, ok.s, okA_sub ok.a (by omega) (by omega) (fun b hb => ?_) (fun s q => q) fun b hb => ?_⟩, ?_⟩
      · rcases mem_cut hb with h | h
        · exact ok.a.arm b h
        · rw [h]
          exact oa
      · rcases mem_cut hb with h | h
        · exact ⟨b, h, .inl rfl, .inr rfl⟩
        · rw [h]
          refine ⟨ar, List.mem_of_getElem? ear, .inl ea.1, ?_⟩
          rcases ea.2 with e | e
          · exact .inr e
          · exact .inl e
      · have h4 := dp_sameAll (s3.trans s4) _ hzs
        refine .tup hr4 ?_
        rw [List.map_append, List.map_append, List.map_take, List.map_drop]
        exact dp_app (dp_app (Pg.dp_take j h4) (.cons (dp_same s4 _ dx) .nil)) (dp_dropA (j + 1) h4)
    -- one branch away
    refine ⟨_, rfl, rfl, _, rfl, ?_⟩
    refine and_fall ?_ fun _ back => ⟨_, rfl, _, _, rfl, .inr ⟨_, hza, rfl⟩, _, _, rfl, rfl, _, rfl, ite2 (fun h1 => ?_) (fun _ => back)⟩
    rotate_left
    · have h1' : 1 < as.length := by
        have := of_decide_eq_true h1
        omega
      refine ⟨_, rfl, _, rfl, _, rfl, _, rfl, _, rfl, za, _, rfl, hza, fun t3 H3 s3 ht3 => ⟨_, rfl, _, rfl, _, _, rfl, rfl, _, rfl, za, _, rfl, Same.seqT s3 hza, fun t4 H4 s4 ht4 => ?_⟩⟩
      rw [cut_takeA] at ht3
      rw [show ((j : Int) + 1) = ((j + 1 : Nat) : Int) from rfl, cut_dropA] at ht4
      refine catA_st (Same.seqT s4 ht3) ht4 (by rw [List.length_take, List.length_drop]; omega) fun r5 H5 s5 hr5 => ?_
      have s25 := s3.trans (s4.trans s5)
      have lt : (as.take j ++ as.drop (j + 1)).length = as.length - 1 := by
        rw [List.length_append, List.length_take, List.length_drop]
        omega
      have sub : ∀ b ∈ as.take j ++ as.drop (j + 1), b ∈ as := fun b hb => by
        rcases List.mem_append.mp hb with h | h
        · exact List.mem_of_mem_take h
        · exact List.mem_of_mem_drop h
      refine ret s25 _ _ _ ns ss (as.take j ++ as.drop (j + 1)) ⟨ok.n, ok.s, okA_sub ok.a (by omega) (by omega) (fun b hb => ok.a.arm b (sub b hb)) (fun s q => q) fun b hb => ⟨b, sub b hb, .inl rfl, .inr rfl⟩⟩ (dp_same s25 _ hu2) (dp_same s25 _ hv2) ?_
      have h4 := dp_sameAll s25 _ hzs
      refine .tup hr5 ?_
      rw [List.map_append, List.map_take, List.map_drop]
      exact dp_app (Pg.dp_take j h4) (dp_dropA (j + 1) h4)
    -- sayings turned round
    obtain ⟨va, vs', rfl, hva, hvs⟩ := Pg.rp_tup (.inl hv2)
    refine ⟨_, rfl, rfl, _, rfl, ?_⟩
    refine ite2 (fun _ => ?_) (fun _ => ?_)
    · refine ⟨_, rfl, _, rfl, va, _, rfl, hva, fun p3 np3 => ⟨_, rfl, ?_⟩⟩
      have s3 := same_new (o := .tup vs'.reverse) np3
      refine ret s3 _ _ _ ns ss.reverse as ⟨ok.n, okS_sub ok.s (by rw [List.length_reverse]; exact ok.s.three) fun s q => List.mem_reverse.mp q, okA_sub ok.a n1 n5 ok.a.arm (fun s q => List.mem_reverse.mp q) fun b hb => ⟨b, hb, .inl rfl, .inr rfl⟩⟩ (dp_same s3 _ hu2) ?_ (dp_same s3 _ hz2)
      refine .tup (SqT.of upd_same) ?_
      rw [List.map_reverse]
      exact dp_sameAll s3 _ (dp_revA hvs)
    -- branches turned round
    refine ⟨_, rfl, rfl, _, rfl, ?_⟩
    refine ite2 (fun _ => ?_) (fun _ => ?_)
    · refine ⟨_, rfl, _, rfl, _, rfl, za, _, rfl, hza, fun p3 np3 => ?_⟩
      have s3 := same_new (o := .tup zs2.reverse) np3
      refine ret s3 _ _ _ ns ss as.reverse ⟨ok.n, ok.s, okA_sub ok.a (by rw [List.length_reverse]; exact n1) (by rw [List.length_reverse]; exact n5) (fun b hb => ok.a.arm b (List.mem_reverse.mp hb)) (fun s q => q) fun b hb => ⟨b, List.mem_reverse.mp hb, .inl rfl, .inr rfl⟩⟩ (dp_same s3 _ hu2) (dp_same s3 _ hv2) ?_
      refine .tup (SqT.of upd_same) ?_
      rw [List.map_reverse]
      exact dp_sameAll s3 _ (dp_revA hzs)
    -- a name put otherwise
    obtain ⟨ua, us, rfl, hua, hus⟩ := Pg.rp_tup (.inl hu2)
    have eus := Pg.dp_strs hus
    subst eus
    refine ⟨_, rfl, rfl, _, rfl, ?_⟩
    refine ite2 (fun _ => ?_) (fun _ => ?_)
    · obtain ⟨n0, nr, rfl⟩ : ∃ n0 nr, ns = n0 :: nr := by
        have := ok.n.one
        cases ns with
        | nil => exact absurd this (by decide)
        | cons n0 nr => exact ⟨n0, nr, rfl⟩
      have nm0 := ok.n.nm n0 (List.mem_cons_self ..)
      have lq : ("q" : Str).length + (cutS n0 (some 1) none).length ≤ sizeLine := by
        have h1 := Pg.name_len (name_q nm0)
        have h2 : (qS n0).length = ("q" : Str).length + (cutS n0 (some 1) none).length := by
          show (("q" : Str).cps ++ (cutS n0 (some 1) none).cps).size = _
          rw [Array.size_append]
          rfl
        exact sz1000 (by omega)
      refine ⟨_, rfl, ua, _, 0, _, rfl, rfl, hua, atI_nat (j := 0) rfl, _, rfl, n0, rfl, sz1000 (Pg.name_len nm0), _, _, rfl, rfl, lq, _, rfl, ua, _, rfl, .inr hua, rfl, Pg.flat_strs _, _, rfl, ?_⟩
      have eB : (if true = true then !inV (V.str (qS n0)) ((n0 :: nr).map V.str) else inV (V.str (qS n0)) ((n0 :: nr).map V.str)) = !(n0 :: nr).contains (qS n0) := by
        rw [if_pos rfl, Pg.inV_strs]
      cases hm : (n0 :: nr).contains (qS n0) with
      | true =>
        refine Pg.iteBF (eB.trans (by rw [hm]; rfl)) ?_
        exact ⟨_, rfl, same⟩
      | false =>
        refine Pg.iteBT (eB.trans (by rw [hm]; rfl)) ?_
        refine ⟨_, rfl, ua, _, 0, _, rfl, rfl, hua, atI_nat (j := 0) rfl, _, rfl, n0, rfl, sz1000 (Pg.name_len nm0), _, _, rfl, rfl, lq, (show 1 ≤ 1000 by decide), fun T3 H3 n3 => ⟨_, rfl, _, rfl, ua, _, rfl, Same.seqT n3.2.2 hua, fun t4 H4 s4 ht4 => ?_⟩⟩
        rw [show (1 : Int) = ((1 : Nat) : Int) from rfl, cut_dropA] at ht4
        refine catA_st (Same.seqT s4 (SqT.of n3.2.1)) ht4 (by
          have := ok.n.three
          rw [List.length_drop, List.length_map, List.length_singleton]
          omega) fun r5 H5 s5 hr5 => ⟨_, rfl, _, rfl, ?_⟩
        have s25 := n3.2.2.trans (s4.trans s5)
        have hni : qS n0 ∉ n0 :: nr := fun h => by
          rw [List.contains_iff_mem.mpr h] at hm
          cases hm
        have okn : OkN (qS n0 :: nr) := ⟨ok.n.one, ok.n.three, fun y hy => by
          rcases List.mem_cons.mp hy with rfl | hy
          · exact name_q nm0
          · exact ok.n.nm y (List.mem_cons_of_mem _ hy), List.nodup_cons.mpr ⟨fun h => hni (List.mem_cons_of_mem _ h), (List.nodup_cons.mp ok.n.nd).2⟩⟩
        exact ret s25 _ _ _ (qS n0 :: nr) ss as ⟨okn, ok.s, ok.a⟩ (Pg.dp_names hr5) (dp_same s25 _ hv2) (dp_same s25 _ hz2)
    -- a turn put otherwise
    obtain ⟨ta, ts, rfl, hta, hts⟩ := Pg.rp_tup (.inl q3)
    obtain ⟨g0, gr, eg⟩ : ∃ g0 gr, ar.turns = g0 :: gr := by
      have h1 := ok.n.one
      have h2 := oar.cm
      cases e : ar.turns with
      | nil =>
        rw [e] at h2
        simp at h2
        omega
      | cons g0 gr => exact ⟨g0, gr, rfl⟩
    have ocs : (((g0 :: gr).map fD).all (Pg.formB ns.length)) = true := by
      have := oar.cs
      rw [eg] at this
      exact this
    rw [List.map_cons, List.all_cons, Bool.and_eq_true] at ocs
    obtain ⟨lg0, hg0⟩ := Pg.form_nums ocs.1
    obtain ⟨i0, ir, rfl⟩ : ∃ i0 ir, g0 = i0 :: ir := by
      cases g0 with
      | nil => simp at lg0
      | cons i0 ir => exact ⟨i0, ir, rfl⟩
    rw [eg, List.map_cons] at hts
    cases hts with
    | @cons v0 _ _ _ h0 htr =>
    obtain ⟨fa, fs0, rfl, hfa, hfs⟩ := Pg.rp_tup (.inl h0)
    cases hfs with
    | @cons x0 _ _ _ hx0 hfr =>
    cases hx0
    refine ⟨_, rfl, rfl, _, rfl, ?_⟩
    refine and_fall ?_ fun _ back => ⟨_, rfl, ta, _, 0, _, rfl, rfl, hta, atI_nat (j := 0) rfl, fa, _, 0, _, rfl, rfl, hfa, atI_nat (j := 0) rfl, _, rfl, _, _, rfl, rfl, ⟨by decide, by decide, by decide⟩, _, _, rfl, rfl, _, rfl, ite2 (fun h6 => ?_) (fun _ => back)⟩
    rotate_left
    · have e10 : ((10 : Int) ^ (6 : Int).toNat) = 1000000 := by decide
      have h6' : -1000000 < i0 ∧ i0 < 1000000 := by
        have := of_decide_eq_true h6
        rw [e10] at this
        split at this <;> omega
      refine ⟨_, rfl, _, rfl, _, rfl, _, rfl, ta, _, 0, _, rfl, rfl, hta, atI_nat (j := 0) rfl, fa, _, 0, _, rfl, rfl, hfa, atI_nat (j := 0) rfl, _, _, rfl, rfl, (show 1 ≤ 1000 by decide), fun T3 H3 n3 => ⟨_, rfl, ta, _, 0, _, rfl, rfl, Same.seqT n3.2.2 hta, atI_nat (j := 0) rfl, _, rfl, fa, _, rfl, Same.seqT n3.2.2 hfa, fun t4 H4 s4 ht4 => ?_⟩⟩
      rw [show (1 : Int) = ((1 : Nat) : Int) from rfl, cut_dropA] at ht4
      have n3' := ok.n.three
      have lfr := Pg.dp_len' hfr
      rw [List.length_map] at lfr
      have lg0' : ir.length + 1 = ns.length + 1 := lg0
      have ltr := Pg.dp_len' htr
      rw [List.length_map] at ltr
      have lgr : gr.length + 1 = ns.length := by
        have := oar.cm
        rw [eg] at this
        exact this
      refine catA_st (Same.seqT s4 (SqT.of n3.2.1)) ht4 (by rw [List.length_drop, List.length_singleton, List.length_cons]; omega) fun r5 H5 s5 hr5 => ⟨(show 1 ≤ 1000 by decide), fun T6 H6 n6 => ?_⟩
      have s26 := n3.2.2.trans (s4.trans (s5.trans n6.2.2))
      refine ⟨_, rfl, _, rfl, ta, _, rfl, Same.seqT s26 hta, fun t7 H7 s7 ht7 => ?_⟩
      rw [show (1 : Int) = ((1 : Nat) : Int) from rfl, cut_dropA] at ht7
      refine catA_st (Same.seqT s7 (SqT.of n6.2.1)) ht7 (by rw [List.length_drop, List.length_singleton, List.length_cons]; omega) fun r8 H8 s8 hr8 => ⟨(show 4 ≤ 1000 by decide), fun T9 H9 n9 => ?_⟩
      have s69 : Same H6 H9 := s7.trans (s8.trans n9.2.2)
      have sA : Same H2 H9 := s26.trans s69
      have okb : ArmOk ns.length ⟨ar.src, ar.tgt, ar.tests, ((i0 + 1) :: ir) :: gr⟩ := by
        refine ⟨oar.s, oar.t, oar.ts, oar.t3, ?_, by rw [← oar.cm, eg]; rfl⟩
        show ((((i0 + 1) :: ir) :: gr).map fD).all (Pg.formB ns.length) = true
        rw [List.map_cons, List.all_cons, ocs.2, Bool.and_true]
        refine form_of ⟨lg0, fun i hi => ?_⟩
        rcases List.mem_cons.mp hi with rfl | hi
        · omega
        · exact hg0 i (List.mem_cons_of_mem _ hi)
      have db : Dp K H9 (.ref T9) (armD ⟨ar.src, ar.tgt, ar.tests, ((i0 + 1) :: ir) :: gr⟩) := by
        have d5 : Dp K H9 (.ref r5) (fD ((i0 + 1) :: ir)) := .tup (Same.seqT (n6.2.2.trans s69) hr5) (.cons (show Dp K H9 (V.int (i0 + 1)) (.int (i0 + 1)) from .int _) (dp_sameAll sA _ hfr))
        have d8 : Dp K H9 (.ref r8) (.tuple ((((i0 + 1) :: ir) :: gr).map fD)) := .tup (Same.seqT n9.2.2 hr8) (.cons d5 (dp_sameAll sA _ htr))
        exact .tup (SqT.of n9.2.1) (.cons (.str _) (.cons (.str _) (.cons (dp_same sA _ q2) (.cons d8 .nil))))
      refine ⟨_, rfl, _, rfl, _, rfl, _, rfl, _, rfl, za, _, rfl, Same.seqT sA hza, fun t10 H10 s10 ht10 => ⟨_, rfl, (show 1 ≤ 1000 by decide), fun T11 H11 n11 => ?_⟩⟩
      rw [cut_takeA] at ht10
      refine catA_st (Same.seqT n11.2.2 ht10) (SqT.of n11.2.1) (by rw [List.length_take, List.length_singleton]; omega) fun r12 H12 s12 hr12 => ?_
      have sB := (sA.trans s10).trans (n11.2.2.trans s12)
      refine ⟨_, rfl, _, rfl, _, _, rfl, rfl, _, rfl, za, _, rfl, Same.seqT sB hza, fun t13 H13 s13 ht13 => ?_⟩
      rw [show ((j : Int) + 1) = ((j + 1 : Nat) : Int) from rfl, cut_dropA] at ht13
      refine catA_st (Same.seqT s13 hr12) ht13 (by rw [List.length_append, List.length_take, List.length_drop, List.length_singleton]; omega) fun r14 H14 s14 hr14 => ?_
      obtain ⟨okP', dz⟩ := put (sA.trans s10 |>.trans n11.2.2 |>.trans s12) _ _ okb ⟨rfl, .inl rfl⟩ (dp_same ((s10.trans n11.2.2).trans s12) _ db) r14 H14 (s13.trans s14) hr14
      have s14' := sB.trans (s13.trans s14)
      exact ret s14' _ _ _ ns ss _ okP' (dp_same s14' _ hu2) (dp_same s14' _ hv2) dz
    -- one end for both
    refine ⟨_, rfl, rfl, _, rfl, ?_⟩
    refine ite2 (fun _ => ?_) (fun _ => ?_)
    · have sA := Same.refl H2
      refine ⟨_, rfl, _, rfl, _, rfl, _, rfl, _, rfl, za, _, rfl, Same.seqT sA hza, fun t10 H10 s10 ht10 => ⟨_, rfl, _, rfl, _, rfl, _, rfl, (show 4 ≤ 1000 by decide), fun T9 H9 n9 => ⟨(show 1 ≤ 1000 by decide), fun T11 H11 n11 => ?_⟩⟩⟩
      rw [cut_takeA] at ht10
      refine catA_st (Same.seqT (n9.2.2.trans n11.2.2) ht10) (SqT.of n11.2.1) (by rw [List.length_take, List.length_singleton]; omega) fun r12 H12 s12 hr12 => ?_
      have sB := (sA.trans s10).trans ((n9.2.2.trans n11.2.2).trans s12)
      refine ⟨_, rfl, _, rfl, _, _, rfl, rfl, _, rfl, za, _, rfl, Same.seqT sB hza, fun t13 H13 s13 ht13 => ?_⟩
      rw [show ((j : Int) + 1) = ((j + 1 : Nat) : Int) from rfl, cut_dropA] at ht13
      refine catA_st (Same.seqT s13 hr12) ht13 (by rw [List.length_append, List.length_take, List.length_drop, List.length_singleton]; omega) fun r14 H14 s14 hr14 => ?_
      have okb : ArmOk ns.length ⟨ar.src, ar.src, ar.tests, ar.turns⟩ := ⟨oar.s, oar.s, oar.ts, oar.t3, oar.cs, oar.cm⟩
      have db : Dp K H9 (.ref T9) (armD ⟨ar.src, ar.src, ar.tests, ar.turns⟩) := .tup (SqT.of n9.2.1) (.cons (.str _) (.cons (.str _) (.cons (dp_same (s10.trans n9.2.2) _ q2) (.cons (dp_same (s10.trans n9.2.2) _ q3) .nil))))
      obtain ⟨okP', dz⟩ := put sB _ _ okb ⟨rfl, .inr rfl⟩ (dp_same (n11.2.2.trans s12) _ db) r14 H14 (s13.trans s14) hr14
      have s14' := sB.trans (s13.trans s14)
      exact ret s14' _ _ _ ns ss _ okP' (dp_same s14' _ hu2) (dp_same s14' _ hv2) dz
    · exact ⟨_, rfl, same⟩
end
end K5
set_option Elab.async false
set_option linter.all false
set_option maxRecDepth 100000
set_option maxHeartbeats 8000000
namespace Vd
open PySem PySem.Spec PyProof.Rows L2 Gd Rl LamX
/-! nested values: as data; a dict within them tells nothing of what it holds -/
mutual
inductive Vp (K : PySem.W.Frag) (H : Hp) : V → PyData → Prop where
  | non : Vp K H .non .none
  | bl (b : Bool) : Vp K H (.bl b) (.bool b)
  | int (i : Int) : Vp K H (.int i) (.int i)
  | str (z : Str) : Vp K H (.str z) (.str z)
  | lst {a : Addr} {xs : List V} {ds : List PyData} (h : SqL K H a xs) (hs : VpAll K H xs ds) : Vp K H (.ref a) (.list ds)
  | tup {a : Addr} {xs : List V} {ds : List PyData} (h : SqT K H a xs) (hs : VpAll K H xs ds) : Vp K H (.ref a) (.tuple ds)
  | dct {a : Addr} {kvs : List (Key × V)} (h : H a = some (.dK kvs)) : Vp K H (.ref a) (.dict [])
inductive VpAll (K : PySem.W.Frag) (H : Hp) : List V → List PyData → Prop where
  | nil : VpAll K H [] []
  | cons {v : V} {d : PyData} {vs : List V} {ds : List PyData} (h : Vp K H v d) (hs : VpAll K H vs ds) : VpAll K H (v :: vs) (d :: ds)
end
theorem sl_ext {K : PySem.W.Frag} {H H' : Hp} {a : Addr} {xs : List V} (e : ExtN H H') (h : SqL K H a xs) : SqL K H' a xs := by
  rcases h with (h | ⟨o, h⟩) | h
  · exact .inl (.inl (e _ _ h fun _ z => nomatch z))
  · exact .inl (.inr ⟨o, e _ _ h fun _ z => nomatch z⟩)
  · exact .inr h
theorem st_ext {K : PySem.W.Frag} {H H' : Hp} {a : Addr} {xs : List V} (e : ExtN H H') (h : SqT K H a xs) : SqT K H' a xs := by
  rcases h with (h | ⟨o, h⟩) | h
  · exact .inl (.inl (e _ _ h fun _ z => nomatch z))
  · exact .inl (.inr ⟨o, e _ _ h fun _ z => nomatch z⟩)
  · exact .inr h
mutual
theorem vp_ext {K : PySem.W.Frag} {H H' : Hp} (e : ExtN H H') : ∀ (d : PyData) {v : V}, Vp K H v d → Vp K H' v d
  | .none, _, h => by cases h; exact .non
  | .bool b, _, h => by cases h; exact .bl b
  | .int i, _, h => by cases h; exact .int i
  | .str z, _, h => by cases h; exact .str z
  | .list ds, _, h => by
    cases h with
    | lst hs ha => exact .lst (sl_ext e hs) (vp_extAll e ds ha)
  | .tuple ds, _, h => by
    cases h with
    | tup hs ha => exact .tup (st_ext e hs) (vp_extAll e ds ha)
  | .dict _, _, h => by
    cases h with
    | dct h => exact .dct (e _ _ h fun _ z => nomatch z)
theorem vp_extAll {K : PySem.W.Frag} {H H' : Hp} (e : ExtN H H') : ∀ (ds : List PyData) {vs : List V}, VpAll K H vs ds → VpAll K H' vs ds
  | [], _, h => by cases h; exact .nil
  | d :: ds, _, h => by
    cases h with
    | cons h1 h2 => exact .cons (vp_ext e d h1) (vp_extAll e ds h2)
end
theorem ext_same {H H' : Hp} (s : Same H H') : ExtN H H' := fun b o e _ => s b o e
theorem vp_same {K : PySem.W.Frag} {H H' : Hp} (s : Same H H') {d : PyData} {v : V} (h : Vp K H v d) : Vp K H' v d := vp_ext (ext_same s) d h
theorem vp_sameAll {K : PySem.W.Frag} {H H' : Hp} (s : Same H H') {ds : List PyData} {vs : List V} (h : VpAll K H vs ds) : VpAll K H' vs ds := vp_extAll (ext_same s) ds h
mutual
theorem vp_dp {K : PySem.W.Frag} {H : Hp} : ∀ (d : PyData) {v : V}, Dp K H v d → Vp K H v d
  | .none, _, h => by cases h; exact .non
  | .bool b, _, h => by cases h; exact .bl b
  | .int i, _, h => by cases h; exact .int i
  | .str z, _, h => by cases h; exact .str z
  | .list ds, _, h => by
    cases h with
    | lst hs ha => exact .lst hs (vp_dpAll ds ha)
  | .tuple ds, _, h => by
    cases h with
    | tup hs ha => exact .tup hs (vp_dpAll ds ha)
  | .dict _, _, h => by cases h
theorem vp_dpAll {K : PySem.W.Frag} {H : Hp} : ∀ (ds : List PyData) {vs : List V}, DpAll K H vs ds → VpAll K H vs ds
  | [], _, h => by cases h; exact .nil
  | d :: ds, _, h => by
    cases h with
    | cons h1 h2 => exact .cons (vp_dp d h1) (vp_dpAll ds h2)
end
/-- the same, no dict told -/
def noD : PyData → PyData
  | .dict _ => .dict []
  | d => d
theorem vp_rp {K : PySem.W.Frag} {H : Hp} {v : V} {d : PyData} (h : Rp K H v d) : Vp K H v (noD d) := by
  rcases h with h | ⟨a, kvs, ds, rfl, h1, _, rfl⟩
  · have h2 := vp_dp d h
    cases d <;> first | exact h2 | cases h
  · exact .dct h1
theorem vp_ty {K : PySem.W.Frag} {H : Hp} {v : V} {d : PyData} (h : Vp K H v d) : TyX K H v (.type (tyN d)) := by
  cases h with
  | non => exact .base .non
  | bl b => exact .base (.bl b)
  | int i => exact .base (.int i)
  | str z => exact .base (.str z)
  | lst h _ => exact sql_ty h
  | tup h _ => exact sqt_ty h
  | dct h => exact .base (.dK h)
theorem vp_len {K : PySem.W.Frag} {H : Hp} : ∀ {vs : List V} {ds : List PyData}, VpAll K H vs ds → vs.length = ds.length
  | _, _, .nil => rfl
  | _, _, .cons a b => by
    rw [List.length_cons, List.length_cons, vp_len b]
theorem vp_at {K : PySem.W.Frag} {H : Hp} : ∀ {vs : List V} {ds : List PyData}, VpAll K H vs ds → ∀ {i : Nat} {v : V}, vs[i]? = some v → ∃ d, ds[i]? = some d ∧ Vp K H v d
  | _, _, .nil, i, v, e => by simp at e
  | _, _, .cons a b, 0, v, e => by
    simp at e
    subst e
    exact ⟨_, rfl, a⟩
  | _, _, .cons a b, i + 1, v, e => vp_at b (i := i) (by simpa using e)
theorem vp_take {K : PySem.W.Frag} {H : Hp} : ∀ (i : Nat) {vs : List V} {ds : List PyData}, VpAll K H vs ds → VpAll K H (vs.take i) (ds.take i)
  | 0, _, _, _ => .nil
  | i + 1, _, _, .nil => .nil
  | i + 1, _, _, .cons a b => .cons a (vp_take i b)
theorem vp_drop {K : PySem.W.Frag} {H : Hp} : ∀ (i : Nat) {vs : List V} {ds : List PyData}, VpAll K H vs ds → VpAll K H (vs.drop i) (ds.drop i)
  | 0, _, _, h => h
  | i + 1, _, _, .nil => .nil
  | i + 1, _, _, .cons a b => vp_drop i b
theorem vp_app {K : PySem.W.Frag} {H : Hp} : ∀ {xs ys : List V} {ds es : List PyData}, VpAll K H xs ds → VpAll K H ys es → VpAll K H (xs ++ ys) (ds ++ es)
  | _, _, _, _, .nil, q => q
  | _, _, _, _, .cons a b, q => .cons a (vp_app b q)
theorem vp_rev {K : PySem.W.Frag} {H : Hp} : ∀ {xs : List V} {ds : List PyData}, VpAll K H xs ds → VpAll K H xs.reverse ds.reverse
  | _, _, .nil => .nil
  | _, _, .cons a b => by
    rw [List.reverse_cons, List.reverse_cons]
    exact vp_app (vp_rev b) (.cons a .nil)
theorem vp_tup {K : PySem.W.Frag} {H : Hp} {v : V} {ds : List PyData} (h : Vp K H v (.tuple ds)) : ∃ a xs, v = .ref a ∧ SqT K H a xs ∧ VpAll K H xs ds := by
  cases h with
  | tup h hs => exact ⟨_, _, rfl, h, hs⟩
/-- isinstance(x, T), T a built-in type, x a nested value -/
def rIsV (K : PySem.W.Frag) (T : String) : List V → Hp → VK → Prop := fun xs H Q => ∃ (v : V) (d : PyData) (b : Bool), xs = [v, .ty T] ∧ Vp K H v d ∧ kitB (tyN d) T = some b ∧ Q (.bl b) H
theorem call_isV {X : Cx} {T : String} : CallR X (.builtin "isinstance") (rIsV X.K T) := by
  intro pins s σ H xs us Q I r h
  obtain ⟨v, d, b, e, hd, hb, q⟩ := h
  exact call_isi pins s σ H xs us Q I r ⟨v, .ty T, .type (tyN d), .type T, b, e, .ty T, vp_ty hd, kit_ty hb, q⟩
/-! ### how deep and how wide -/
def Fit (m : Nat) : Nat → PyData → Prop
  | 0, _ => False
  | n + 1, .tuple ds => ds.length ≤ m ∧ ∀ d ∈ ds, Fit m n d
  | n + 1, .list ds => ds.length ≤ m ∧ ∀ d ∈ ds, Fit m n d
  | _ + 1, .str z => z.length ≤ 1000
  | _ + 1, _ => True
theorem Fit.mono {m m' : Nat} (hm : m ≤ m') : ∀ {n n' : Nat} {d : PyData}, n ≤ n' → Fit m n d → Fit m' n' d
  | 0, _, _, _, h => h.elim
  | n + 1, 0, _, hn, _ => absurd hn (by omega)
  | n + 1, n' + 1, .tuple ds, hn, h => ⟨Nat.le_trans h.1 hm, fun d hd => Fit.mono hm (Nat.le_of_succ_le_succ hn) (h.2 d hd)⟩
  | n + 1, n' + 1, .list ds, hn, h => ⟨Nat.le_trans h.1 hm, fun d hd => Fit.mono hm (Nat.le_of_succ_le_succ hn) (h.2 d hd)⟩
  | n + 1, n' + 1, .none, _, _ => trivial
  | n + 1, n' + 1, .bool _, _, _ => trivial
  | n + 1, n' + 1, .int _, _, _ => trivial
  | n + 1, n' + 1, .str _, _, h => h
  | n + 1, n' + 1, .dict _, _, _ => trivial
/-! ### parts of a tuple -/
theorem cut_drop {xs : List V} {i : Nat} (h : i ≤ xs.length) : cutV xs (some (i : Int)) none = xs.drop i := by
  unfold cutV
  rw [HT.sIx_none, HT.sIx_nat, Nat.min_eq_left h]
  exact List.take_of_length_le (by rw [List.length_drop]; exact Nat.le_refl _)
theorem cut_mid {xs : List V} {i j : Nat} (h : j ≤ xs.length) (hi : i ≤ j) : cutV xs (some (i : Int)) (some (j : Int)) = (xs.drop i).take (j - i) := by
  unfold cutV
  rw [HT.sIx_nat, HT.sIx_nat, Nat.min_eq_left h, Nat.min_eq_left (Nat.le_trans hi h)]
theorem catA_vp {K : PySem.W.Frag} {H : Hp} {x y : V} {ds es : List PyData} {Q : VK} (hx : Vp K H x (.tuple ds)) (hy : Vp K H y (.tuple es)) (hl : ds.length + es.length ≤ 1000) (h : ∀ r H', Same H H' → ∀ xs ys, VpAll K H xs ds → VpAll K H ys es → (∃ a, r = .ref a ∧ SqT K H' a (xs ++ ys)) → Q r H') : rCatA K x y H Q := by
  obtain ⟨a, xs, rfl, ha, hxs⟩ := vp_tup hx
  obtain ⟨b, ys, rfl, hb, hys⟩ := vp_tup hy
  have l1 := vp_len hxs
  have l2 := vp_len hys
  refine ⟨a, b, xs, ys, rfl, rfl, ha, hb, sz1000 (by omega), fun e0 => ?_, fun n0 e0 => ?_, fun n0 n1 p np => ?_⟩
  · subst e0
    exact h _ H (Same.refl _) [] ys hxs hys ⟨b, rfl, hb⟩
  · subst e0
    exact h _ H (Same.refl _) xs [] hxs hys ⟨a, rfl, by rw [List.append_nil]; exact ha⟩
  · have s := same_new (o := .tup (xs ++ ys)) np
    exact h _ _ s xs ys hxs hys ⟨p, rfl, SqT.of upd_same⟩
end Vd
namespace L2
open PySem PySem.Spec PyProof.Rows
/-! a tuple beside the empty tuple -/
def rNeT (K : PySem.W.Frag) : R2 := fun x y H Q => ∃ a b xs, x = .ref a ∧ y = .ref b ∧ SqT K H a xs ∧ SqT K H b [] ∧ Q (.bl (!xs.isEmpty)) H
def rEqT (K : PySem.W.Frag) : R2 := fun x y H Q => ∃ a b xs, x = .ref a ∧ y = .ref b ∧ SqT K H a xs ∧ SqT K H b [] ∧ Q (.bl xs.isEmpty) H
section
variable {X : Cx}
theorem op_neT (hu : X.A.units + 64 < cLine) : OpR X (compareOp .NotEq) (rNeT X.K) := by
  intro pins s σ H x y v u Q I rx ry h
  obtain ⟨a, b, xs, rfl, rfl, ha, hb, q⟩ := h
  cases rx
  cases ry
  obtain ⟨ia, ra, ⟨oa, ha1, ha2, na, ha3⟩, _⟩ := I.tuple ha
  obtain ⟨ib, rb, ⟨ob, hb1, hb2, nb, hb3⟩, _⟩ := I.tuple hb
  cases rb
  have h2 := SeqAt.RcNeAt.tuples (A := X.A) (s := s) (e := fun _ => true) ⟨oa, ha1, ha2, na, ha3⟩ ⟨ob, hb1, hb2, nb, hb3⟩ (by omega) fun j h1 h2 => by simp at h2
  refine EqBoolInt.of_rcne h2 ?_
  refine ⟨.bl (!xs.isEmpty), H, I, ?_, q⟩
  cases ra with
  | nil => rfl
  | cons r1 r2 => rfl
theorem op_eqT (hu : X.A.units + 64 < cLine) : OpR X (compareOp .Eq) (rEqT X.K) := by
  intro pins s σ H x y v u Q I rx ry h
  obtain ⟨a, b, xs, rfl, rfl, ha, hb, q⟩ := h
  cases rx
  cases ry
  obtain ⟨ia, ra, ⟨oa, ha1, ha2, na, ha3⟩, _⟩ := I.tuple ha
  obtain ⟨ib, rb, ⟨ob, hb1, hb2, nb, hb3⟩, _⟩ := I.tuple hb
  cases rb
  have h2 := SeqAt.RcAt.tuples (A := X.A) (s := s) (e := fun _ => true) ⟨oa, ha1, ha2, na, ha3⟩ ⟨ob, hb1, hb2, nb, hb3⟩ (by omega) fun j h1 h2 => by simp at h2
  refine EqBoolInt.of_rc h2 ?_
  refine ⟨.bl xs.isEmpty, H, I, ?_, q⟩
  cases ra with
  | nil => rfl
  | cons r1 r2 => rfl
end
end L2
set_option Elab.async false
set_option linter.all false
set_option maxRecDepth 100000
set_option maxHeartbeats 8000000
namespace Sz
open PySem PySem.Spec PyProof.Rows L2 TL Nu
/-! how long shown data is at most -/
theorem len_ap (x y : Str) : (x ++ y).length = x.length + y.length := by
  rw [len_tl, tl_append, List.length_append, ← len_tl, ← len_tl]
theorem sums_le {l : List Nat} {b : Nat} (h : ∀ x ∈ l, x ≤ b) : l.sum ≤ l.length * b := by
  induction l with
  | nil => simp
  | cons a l ih =>
    rw [List.sum_cons, List.length_cons, Nat.succ_mul]
    have h1 := h a (List.mem_cons_self ..)
    have h2 := ih fun x hx => h x (List.mem_cons_of_mem _ hx)
    omega
theorem sep_le (k : Nat) : ((if k > 0 then ", " else "" : String) : Str).length ≤ 2 := by
  split <;> decide +kernel
theorem from_le : ∀ (ts : List Str) (k : Nat) (acc : Str), (textFrom k acc ts).length ≤ acc.length + (ts.map (·.length)).sum + 2 * ts.length
  | [], k, acc => by
    show acc.length ≤ _
    omega
  | t :: r, k, acc => by
    have ih := from_le r (k + 1) (acc ++ (if k > 0 then ", " else "" : String) ++ t)
    have e : textFrom k acc (t :: r) = textFrom (k + 1) (acc ++ (if k > 0 then ", " else "" : String) ++ t) r := rfl
    rw [e]
    rw [len_ap, len_ap] at ih
    have := sep_le k
    rw [List.map_cons, List.sum_cons, List.length_cons]
    omega
theorem list_le (ts : List Str) : (listText ts).length ≤ (ts.map (·.length)).sum + 2 * ts.length + 2 := by
  unfold listText
  rw [len_ap]
  have := from_le ts 0 "["
  have e1 : ("[" : Str).length = 1 := by decide +kernel
  have e2 : ("]" : Str).length = 1 := by decide +kernel
  rw [e1] at this
  rw [e2]
  omega
theorem join_le (y : Str) : ∀ ps : List Str, (Str.join y ps).length ≤ (ps.map (·.length)).sum + ps.length * y.length
  | [] => Nat.zero_le _
  | [p] => by
    show p.length ≤ _
    simp
  | p :: q :: r => by
    have ih := join_le y (q :: r)
    have e : Str.join y (p :: q :: r) = p ++ y ++ Str.join y (q :: r) := rfl
    rw [e, len_ap, len_ap, List.map_cons, List.sum_cons, List.length_cons, Nat.succ_mul]
    omega
theorem tup_le (ts : List Str) : (tupleText ts).length ≤ (ts.map (·.length)).sum + 2 * ts.length + 3 := by
  unfold tupleText
  rw [len_ap, len_ap]
  have := join_le ", " ts
  have e1 : ("(" : Str).length = 1 := by decide +kernel
  have e2 : (", " : Str).length = 2 := by decide +kernel
  have e3 : ((if ts.length == 1 then ",)" else ")" : String) : Str).length ≤ 2 := by
    split <;> decide +kernel
  rw [e2] at this
  rw [e1]
  omega
/-- shown in at most n signs, at most k deep -/
structure Sh (d : PyData) (n k : Nat) : Prop where
  len : d.shown.length ≤ n
  sh : d.showable = true
  dp : d.depth ≤ k
theorem Sh.mono {d : PyData} {n k n2 k2 : Nat} (h : Sh d n k) (a : n ≤ n2) (b : k ≤ k2) : Sh d n2 k2 := ⟨Nat.le_trans h.len a, h.sh, Nat.le_trans h.dp b⟩
theorem all_len : ∀ ds : List PyData, (PyData.shownAll ds).length = ds.length
  | [] => by simp only [PyData.shownAll]; rfl
  | d :: ds => by
    simp only [PyData.shownAll, List.length_cons, all_len ds]
theorem all_mem : ∀ {ds : List PyData} {t : Str}, t ∈ PyData.shownAll ds → ∃ d ∈ ds, t = d.shown
  | [], t, h => by
    simp only [PyData.shownAll] at h
    cases h
  | d :: ds, t, h => by
    simp only [PyData.shownAll] at h
    rcases List.mem_cons.mp h with rfl | h
    · exact ⟨d, List.mem_cons_self .., rfl⟩
    · obtain ⟨e, he, q⟩ := all_mem h
      exact ⟨e, List.mem_cons_of_mem _ he, q⟩
theorem all_sum {ds : List PyData} {n : Nat} (h : ∀ d ∈ ds, d.shown.length ≤ n) : ((PyData.shownAll ds).map (·.length)).sum ≤ ds.length * n := by
  have q := sums_le (l := (PyData.shownAll ds).map (·.length)) (b := n) fun x hx => by
    obtain ⟨t, ht, rfl⟩ := List.mem_map.mp hx
    obtain ⟨d, hd, rfl⟩ := all_mem ht
    exact h d hd
  rw [List.length_map, all_len] at q
  exact q
theorem all_show : ∀ {ds : List PyData}, (∀ d ∈ ds, d.showable = true) → PyData.showableAll ds = true
  | [], _ => rfl
  | d :: ds, h => by
    simp only [PyData.showableAll, h d (List.mem_cons_self ..), all_show fun e he => h e (List.mem_cons_of_mem _ he)]
    rfl
theorem sh_int {i : Int} (h : -1000000 ≤ i ∧ i ≤ 1000000) : Sh (.int i) 8 1 := by
  refine ⟨?_, ?_, ?_⟩
  · simp only [PyData.shown]
    exact num_len h
  · simp only [PyData.showable]
    exact decide_eq_true (num_log h)
  · simp only [PyData.depth]
    decide
theorem sh_str {z : Str} {n : Nat} (h : ∀ c ∈ z.cps.toList, c < 16 ^ 8) (hn : z.length ≤ n) : Sh (.str z) (10 * n + 2) 1 := by
  refine ⟨?_, ?_, ?_⟩
  · simp only [PyData.shown]
    have := StrLaws.reprText_len z h
    omega
  · simp only [PyData.showable]
  · simp only [PyData.depth]
    decide
theorem sh_bool (b : Bool) : Sh (.bool b) 5 1 := by
  cases b <;> exact ⟨by decide +kernel, by simp only [PyData.showable], by simp only [PyData.depth]; decide⟩
theorem all_deep : ∀ {ds : List PyData} {k : Nat}, (∀ d ∈ ds, d.depth ≤ k) → PyData.depthAll ds ≤ k
  | [], k, _ => by
    simp only [PyData.depthAll]
    exact Nat.zero_le _
  | d :: ds, k, h => by
    have h1 := h d (List.mem_cons_self ..)
    have h2 := all_deep fun e he => h e (List.mem_cons_of_mem _ he)
    simp only [PyData.depthAll]
    omega
theorem sh_tup {ds : List PyData} {n k : Nat} (h : ∀ d ∈ ds, Sh d n k) : Sh (.tuple ds) (ds.length * (n + 2) + 3) (k + 1) := by
  refine ⟨?_, ?_, ?_⟩
  · simp only [PyData.shown]
    have h1 := tup_le (PyData.shownAll ds)
    have h2 := all_sum fun d hd => (h d hd).len
    rw [all_len] at h1
    rw [Nat.mul_add]
    omega
  · simp only [PyData.showable]
    exact all_show fun d hd => (h d hd).sh
  · have := all_deep fun d hd => (h d hd).dp
    simp only [PyData.depth]
    omega
theorem sh_lst {ds : List PyData} {n k : Nat} (h : ∀ d ∈ ds, Sh d n k) : Sh (.list ds) (ds.length * (n + 2) + 2) (k + 1) := by
  refine ⟨?_, ?_, ?_⟩
  · simp only [PyData.shown]
    have h1 := list_le (PyData.shownAll ds)
    have h2 := all_sum fun d hd => (h d hd).len
    rw [all_len] at h1
    rw [Nat.mul_add]
    omega
  · simp only [PyData.showable]
    exact all_show fun d hd => (h d hd).sh
  · have := all_deep fun d hd => (h d hd).dp
    simp only [PyData.depth]
    omega
end Sz
set_option Elab.async false
set_option linter.all false
set_option maxRecDepth 100000
set_option maxHeartbeats 8000000
namespace Ow
open PySem PySem.Spec PyProof.Rows L2
section
variable {X : Cx} {CX : CXT} {k : Nat} {f : Addr} {sp : Sp} {E : XK} {x : Str} {p pos : Pos} {tk : TA} {fd : FuncData} {ps ks : List Str} {kws : List Keyword} {gg : List Value → List Value → List Value} {gV : List V → List V → List V}
/-- x(k = v, ..), x a def of the module, no argument by position -/
def tFnK (n : Nat) (sp : Sp) (gV : List V → List V → List V) (E : XK) (tk : TA) : TE := fun σ H Q => tk σ H fun zs H2 => zs.length = n ∧ sp (gV [] zs) H2 Q E
theorem pe_callK0 (F : FnOk X.prog X.w X.K X.mg X.base CX k f fd ps sp) (hr : Room k X.A) (hg : Gl X x) (hm : X.mg x = some (.ref f)) (hk : PySem.W.keepIn X.K (.ref f) = true) (hb : KBn X.K fd ps 0 ks gg gV) (hx : Passes CX X E) (hkw : PK X kws tk)
    (hall : (backToKw pos (keywordEach kws X.env)).all (·.1.isSome) = true := by rfl) (hks : (backToKw pos (keywordEach kws X.env)).filterMap (·.1) = ks := by rfl) (hdb : (x == ("__debug__" : Str)) = false := by decide)
    (hpl : ((backTo pos (starEach [] X.env)).any (·.1) || (backToKw pos (keywordEach kws X.env)).any (·.1.isNone)) = false := by rfl) :
    PE X (.Call (.Name x p) [] kws pos) (tFnK ks.length sp gV E tk) := by
  refine ⟨fun pins s σ H Q I h => ?_⟩
  refine wpAny_Call_Name_kw (ld_glob I hg hm ?_ hdb)
  refine PySem.W.callWith_KW0 (h₀ := X.base) I.ok.mod.kin hk hall ?_ hpl
  refine thn (hkw.run pos pins s σ H _ I h) fun ws s2 ⟨zs, H2, I2, rz, l2, q2⟩ => ⟨I2.kIn, ?_⟩
  rw [hks]
  refine wpAny_call (codeAny_mono (F.run X.A X.stack s2 H2 ⟨[], ks.zip ws⟩ (gg [] ws) (gV [] zs) Q E hr I2.env0 (hb.to s2 [] ws I2.kIn rfl (rz.length.symm.trans l2)) (hb.rel .nil rz) q2) fun r s' hq => ?_)
  cases r with
  | error e => exact hx pins σ H2 s2 e s' I2 hq
  | ok fl =>
    cases fl with
    | ret u => exact I2.after hq
    | next => exact False.elim hq
    | brk => exact False.elim hq
    | cont => exact False.elim hq
end
end Ow
namespace Sz
open PySem PySem.Spec PyProof.Rows L2 TL Nu
/-! great whole numbers, shown -/
theorem num_lenB {i : Int} {k : Nat} (k0 : 0 < k) (h : i.natAbs < 10 ^ k) : (numS i).length ≤ k + 1 := by
  rw [len_tl]
  cases i with
  | ofNat n =>
    rw [tl_pos]
    exact Nat.le_trans (numL_len (n := n) (k := k) k0 h) (Nat.le_succ _)
  | negSucc n =>
    rw [tl_neg, List.length_cons]
    have := numL_len (n := n + 1) (k := k) k0 h
    omega
theorem num_logB {i : Int} (h : i.natAbs < 2 ^ 1920) : i.natAbs.log2 < 1920 := by
  by_cases h0 : i.natAbs = 0
  · rw [h0]
    exact Nat.lt_of_lt_of_le (show Nat.log2 0 < 1 by decide) (by decide)
  · exact (Nat.log2_lt h0).mpr h
theorem sh_intB {i : Int} (h : i.natAbs < 10 ^ 60) : Sh (.int i) 61 1 := by
  refine ⟨?_, ?_, ?_⟩
  · simp only [PyData.shown]
    exact num_lenB (by decide) h
  · simp only [PyData.showable]
    have l : (10 ^ 60 : Nat) < 2 ^ 200 := by decide
    exact decide_eq_true (num_logB (Nat.lt_of_lt_of_le (Nat.lt_trans h l) (Nat.pow_le_pow_right (by decide) (by decide))))
  · simp only [PyData.depth]
    decide
theorem sh_intN {i : Int} {k : Nat} (k0 : 0 < k) (k4 : k ≤ 400) (h : i.natAbs < 10 ^ k) : Sh (.int i) (k + 1) 1 := by
  refine ⟨?_, ?_, ?_⟩
  · simp only [PyData.shown]
    exact num_lenB k0 h
  · simp only [PyData.showable]
    have h3 : (10 : Nat) ^ k ≤ 16 ^ k := Nat.pow_le_pow_left (by decide) _
    have h4 : (16 : Nat) ^ k = 2 ^ (4 * k) := by
      rw [show (16 : Nat) = 2 ^ 4 from rfl, ← Nat.pow_mul]
    exact decide_eq_true (num_logB (Nat.lt_of_lt_of_le (Nat.lt_of_lt_of_le h h3) (by rw [h4]; exact Nat.pow_le_pow_right (by decide) (by omega))))
  · simp only [PyData.depth]
    decide
theorem sum_abs {l : List Int} {b : Nat} (h : ∀ z ∈ l, z.natAbs ≤ b) : l.sum.natAbs ≤ l.length * b := by
  induction l with
  | nil => exact Nat.zero_le _
  | cons a l ih =>
    rw [List.sum_cons, List.length_cons, Nat.succ_mul]
    have h1 := h a (List.mem_cons_self ..)
    have h2 := ih fun x hx => h x (List.mem_cons_of_mem _ hx)
    have h3 := Int.natAbs_add_le a l.sum
    omega
end Sz
set_option Elab.async false
set_option linter.all false
set_option maxRecDepth 100000
set_option maxHeartbeats 8000000
namespace K5
open PySem PySem.Spec PyProof.Rows L2 Gd Rl Nu TL
open Pg (fD top okD okAll)
abbrev sThing : Stmt := top 48
/-! ### values of any kind -/
def fitB (m : Nat) : Nat → PyData → Bool
  | 0, _ => false
  | n + 1, .tuple ds => decide (ds.length ≤ m) && ds.all (fitB m n)
  | n + 1, .list ds => decide (ds.length ≤ m) && ds.all (fitB m n)
  | _ + 1, .str z => decide (z.length ≤ 1000)
  | _ + 1, _ => true
theorem fitB_ok {m : Nat} : ∀ {n : Nat} {d : PyData}, fitB m n d = true → Vd.Fit m n d
  | 0, _, h => by cases h
  | n + 1, .tuple ds, h => by
    obtain ⟨h1, h2⟩ := Bool.and_eq_true_iff.mp (show (decide (ds.length ≤ m) && ds.all (fitB m n)) = true from h)
    exact ⟨of_decide_eq_true h1, fun d hd => fitB_ok (List.all_eq_true.mp h2 d hd)⟩
  | n + 1, .list ds, h => by
    obtain ⟨h1, h2⟩ := Bool.and_eq_true_iff.mp (show (decide (ds.length ≤ m) && ds.all (fitB m n)) = true from h)
    exact ⟨of_decide_eq_true h1, fun d hd => fitB_ok (List.all_eq_true.mp h2 d hd)⟩
  | n + 1, .none, _ => trivial
  | n + 1, .bool _, _ => trivial
  | n + 1, .int _, _ => trivial
  | n + 1, .str z, h => show z.length ≤ 1000 from of_decide_eq_true (show decide (z.length ≤ 1000) = true from h)
  | n + 1, .dict _, _ => trivial
def menu : List PyData := [.none, .bool true, .bool false, .int 0, .int 1, .int (-1), .int 2, .int (10 ^ 6 + 1), .int (-10 ^ 39), .str "", .str "a", .str "vars x", .tuple [], .tuple [.int 0], .tuple [.int 1, .int 0], .str "9x",
  .list [], .list [.int 1], .str "A", .dict [], .dict [(.str "a", .int 1)], .tuple [.str "x"], .tuple [.str "a", .tuple [.int 1, .int 0]], .tuple [.tuple [.int 1, .int 0]], .tuple [.str "row"], .tuple [.none], .str "abcdefghi", .str "x y"]
def okMB (d : PyData) : Bool := fitB 2 4 (Vd.noD d)
theorem menu_fine : menu.all okMB = true := by decide +kernel
/-- v stands for a thing of the menu -/
def Thing (K : PySem.W.Frag) (H : Hp) (v : V) : Prop := ∃ d, Rp K H v d ∧ Vd.Fit 2 4 (Vd.noD d)
theorem Thing.same {K : PySem.W.Frag} {H H' : Hp} (e : Same H H') {v : V} (h : Thing K H v) : Thing K H' v := let ⟨d, a, b⟩ := h; ⟨d, rp_same e a, b⟩
def Things (K : PySem.W.Frag) (H : Hp) (xs : List V) : Prop := Paired (Rp K H) xs menu
theorem things_at {K : PySem.W.Frag} {H : Hp} : ∀ {xs : List V} {ds : List PyData}, Paired (Rp K H) xs ds → ds.all okMB = true → ∀ {i : Nat} {x : V}, xs[i]? = some x → Thing K H x
  | _, _, .nil, _, i, x, e => by simp at e
  | _, _, .cons r t, h, 0, x, e => by
    simp at e
    subst e
    simp only [List.all_cons, Bool.and_eq_true] at h
    exact ⟨_, r, fitB_ok h.1⟩
  | _, _, .cons r t, h, i + 1, x, e => by
    simp only [List.all_cons, Bool.and_eq_true] at h
    exact things_at t h.2 (by simpa using e)
theorem pnil {K : PySem.W.Frag} {H : Hp} : Paired (Rp K H) [] [] := .nil
theorem pcons {K : PySem.W.Frag} {H : Hp} {v : V} {d : PyData} {vs : List V} {ds : List PyData} (h : Rp K H v d) (t : Paired (Rp K H) vs ds) : Paired (Rp K H) (v :: vs) (d :: ds) := .cons h t
theorem pcons2 {K : PySem.W.Frag} {H : Hp} {v : V} {d : PyData} {vs : List V} {ds : List PyData} (h : Dp K H v d) (t : Paired (Rp K H) vs ds) : Paired (Rp K H) (v :: vs) (d :: ds) := .cons (.inl h) t
theorem same_p {K : PySem.W.Frag} {H H' : Hp} (e : Same H H') : ∀ {vs : List V} {ds : List PyData}, Paired (Rp K H) vs ds → Paired (Rp K H') vs ds
  | _, _, .nil => .nil
  | _, _, .cons r t => .cons (rp_same e r) (same_p e t)
theorem app_p {K : PySem.W.Frag} {H : Hp} : ∀ {vs ws : List V} {ds es : List PyData}, Paired (Rp K H) vs ds → Paired (Rp K H) ws es → Paired (Rp K H) (vs ++ ws) (ds ++ es)
  | _, _, _, _, .nil, q => q
  | _, _, _, _, .cons r t, q => .cons r (app_p t q)
theorem same_dels {p : Addr} {H H' : Hp} (b : But p H H') : Same (delH H p) (delH H' p) := fun a o e => by
  by_cases h : a = p
  · rw [h, delH_same] at e
    cases e
  · rw [delH_ne h] at e ⊢
    exact b a o e h
theorem same_del {p : Addr} {H H' : Hp} (b : But p H H') : Same (delH H p) H' := fun a o e => by
  by_cases h : a = p
  · rw [h, delH_same] at e
    cases e
  · rw [delH_ne h] at e
    exact b a o e h
theorem del_at {p a : Addr} {H H0 H' : Hp} {o u : HO} (hp : H0 p = some u) (n : New H0 a o H) (s : Same H H') : delH H' p a = some o := by
  rw [delH_ne (ne_of_none hp n.1).symm]
  exact s _ _ n.2.1
def spThing (K : PySem.W.Frag) : Sp := fun vs H Q _ => ∃ p, vs = [.ref p] ∧ Pail H p ∧ ∀ (v : V) (H' : Hp), Thing K (delH H' p) v → Pail H' p → But p H H' → Q v H'
section
variable {P : Program} {w : World} {K : PySem.W.Frag} {mg : Str → Option Value} {base : Heap} {f : Addr} {fd : FuncData}
theorem scThing : FnScope ["_law_pail", "_law_menu"] ["_law_pail"] (defScope sThing) := ⟨rfl, rfl, rfl, by decide +kernel, rfl, by decide +kernel, by decide +kernel⟩
theorem ok_thing {fA fC : Addr} {fdA fdC : FuncData} (F : FnP K "_law_thing" sThing f fd) (T : Bl mg) (FA : FnP K "_law_any_of" sAny fA fdA) (gA : mg "_law_any_of" = some (.ref fA)) (FC : FnP K "_law_cast" sCast fC fdC) (gC : mg "_law_cast" = some (.ref fC)) : FnOk P w K mg base CX0 3 f fd ["_law_pail"] (spThing K) := by
  have GA : FnOk P w K mg base CX0 2 fA fdA ["_law_pail", "_law_some"] (spAny K) := ok_any FA T FC gC
  have bA : Binds K fdA ["_law_pail", "_law_some"] [] := FA.bindsN fun _ _ _ _ _ _ us hl => match us, hl with | [_, _], _ => rfl
  refine F.ok scThing (fun vs H Q E h => ?_) (fun cdv A outer s H vs Q E hr h => ?_)
  · obtain ⟨p, rfl, _⟩ := h
    rfl
  · obtain ⟨p, rfl, hp, k⟩ := h
    refine ⟨_, PSs.nox <| pss_cons (ps_set (i := 1) scThing.nd rfl (.inl rfl) (pe_lstR <| pa_cons pe_non <| pa_cons pe_bl <| pa_cons pe_bl <| pa_cons pe_int <| pa_cons pe_int <| pa_cons (pe_un un_neg pe_int) <| pa_cons pe_int <| pa_cons (pe_op op_add (pe_op op_pow pe_int pe_int) pe_int) <| pa_cons (pe_un un_neg (pe_op op_pow pe_int pe_int))
        <| pa_cons pe_str <| pa_cons pe_str <| pa_cons pe_str <| pa_cons (pe_tupR pa_nil) <| pa_cons (pe_tupR <| pa_cons pe_int pa_nil) <| pa_cons (pe_tupR <| pa_cons pe_int <| pa_cons pe_int pa_nil) <| pa_cons pe_str pa_nil))
      <| pss_cons (ps_set (i := 1) scThing.nd rfl (.inl rfl) (pe_op op_catR (pv 1) (pe_lstR <| pa_cons (pe_lstR pa_nil) <| pa_cons (pe_lstR <| pa_cons pe_int pa_nil) <| pa_cons pe_str <| pa_cons pe_dnewR <| pa_cons (pe_disp (pps_cons pe_str pe_int pps_nil) rfl rfl (by decide) (by decide)) <| pa_cons (pe_tupR <| pa_cons pe_str pa_nil) <| pa_cons (pe_tupR <| pa_cons pe_str <| pa_cons (pe_tupR <| pa_cons pe_int <| pa_cons pe_int pa_nil) pa_nil)
        <| pa_cons (pe_tupR <| pa_cons (pe_tupR <| pa_cons pe_int <| pa_cons pe_int pa_nil) pa_nil) <| pa_cons (pe_tupR <| pa_cons pe_str pa_nil) <| pa_cons (pe_tupR <| pa_cons pe_non pa_nil) <| pa_cons pe_str <| pa_cons pe_str pa_nil)))
      <| pss_one (ps_ret (pe_call GA hr (by rfl) gA FA.kp bA .nil pass0 (pa_cons (pv 0) (pa_cons (pv 1) pa_nil)))), ?_⟩
    have dl : ∀ {n : Nat}, decide (n ≤ 1000) = true → n ≤ 1000 := fun h => of_decide_eq_true h
    refine ⟨_, rfl, _, _, rfl, rfl, ⟨by decide, by decide, by decide⟩, _, _, rfl, rfl, _, _, rfl, rfl, ⟨by decide, by decide, by decide⟩, _, rfl, dl rfl, fun a1 H1 n1 => ⟨dl rfl, fun a2 H2 n2 => ⟨dl rfl, fun a3 H3 n3 => ⟨dl rfl, fun l4 H4 n4 => ?_⟩⟩⟩⟩
    refine ⟨_, rfl, dl rfl, fun l5 H5 n5 => ⟨dl rfl, fun l6 H6 n6 => fun d7 H7 n7 => fun d8 nd8 => ⟨upd_same, [(Sum.inr "a", .int 1)], rfl, by decide, ?_⟩⟩⟩
    have n8 : New H7 d8 (.dK [(Sum.inr "a", .int 1)]) (upd (upd H7 d8 (.dK [])) d8 (.dK (mergeK [] [(Sum.inr "a", .int 1)]))) := ⟨nd8, upd_same, fun b u e => by rw [upd_ne (ne_of_none e nd8), upd_ne (ne_of_none e nd8)]; exact e⟩
    generalize (upd (upd H7 d8 (.dK [])) d8 (.dK (mergeK [] [(Sum.inr "a", .int 1)]))) = H8 at n8 ⊢
    refine ⟨dl rfl, fun a9 H9 n9 => ⟨dl rfl, fun b10 H10 n10 => ⟨dl rfl, fun a11 H11 n11 => ⟨dl rfl, fun b12 H12 n12 => ⟨dl rfl, fun a13 H13 n13 => ⟨dl rfl, fun a14 H14 n14 => ⟨dl rfl, fun a15 H15 n15 => ⟨dl rfl, fun l16 H16 n16 => ?_⟩⟩⟩⟩⟩⟩⟩⟩
    have s16 := Same.refl H16
    have s15 := n16.2.2
    have s14 := n15.2.2.trans s15
    have s13 := n14.2.2.trans s14
    have s12 := n13.2.2.trans s13
    have s11 := n12.2.2.trans s12
    have s10 := n11.2.2.trans s11
    have s9 := n10.2.2.trans s10
    have s8 := n9.2.2.trans s9
    have s7 := n8.2.2.trans s8
    have s6 := n7.2.2.trans s7
    have s5 := n6.2.2.trans s6
    have s4 := n5.2.2.trans s5
    have s3 := n4.2.2.trans s4
    have s2 := n3.2.2.trans s3
    have s1 := n2.2.2.trans s2
    have s0 := n1.2.2.trans s1
    refine ⟨l4, l16, _, _, rfl, rfl, s4 _ _ n4.2.1, n16.2.1, dl rfl, fun l17 H17 n17 => ?_⟩
    have z := n17.2.2
    have hpp := hp
    obtain ⟨o, st, c, q0, _⟩ := hpp
    have q1 := n1.2.2 _ _ q0
    have q2 := n2.2.2 _ _ q1
    have q3 := n3.2.2 _ _ q2
    have q4 := n4.2.2 _ _ q3
    have q5 := n5.2.2 _ _ q4
    have q6 := n6.2.2 _ _ q5
    have q7 := n7.2.2 _ _ q6
    have q8 := n8.2.2 _ _ q7
    have q9 := n9.2.2 _ _ q8
    have q10 := n10.2.2 _ _ q9
    have q11 := n11.2.2 _ _ q10
    have q12 := n12.2.2 _ _ q11
    have q13 := n13.2.2 _ _ q12
    have q14 := n14.2.2 _ _ q13
    have q15 := n15.2.2 _ _ q14
    have q16 := n16.2.2 _ _ q15
    have e1 := del_at q0 n1 (s1.trans z)
    have e2 := del_at q1 n2 (s2.trans z)
    have e3 := del_at q2 n3 (s3.trans z)
    have e5 := del_at q4 n5 (s5.trans z)
    have e6 := del_at q5 n6 (s6.trans z)
    have e7 := del_at q6 n7 (s7.trans z)
    have e8 := del_at q7 n8 (s8.trans z)
    have e9 := del_at q8 n9 (s9.trans z)
    have e10 := del_at q9 n10 (s10.trans z)
    have e11 := del_at q10 n11 (s11.trans z)
    have e12 := del_at q11 n12 (s12.trans z)
    have e13 := del_at q12 n13 (s13.trans z)
    have e14 := del_at q13 n14 (s14.trans z)
    have e15 := del_at q14 n15 (s15.trans z)
    have all : Paired (Rp K (delH H17 p)) _ menu := (pcons2 .non <| pcons2 (.bl true) <| pcons2 (.bl false) <| pcons2 (.int 0) <| pcons2 (.int 1) <| pcons2 (.int (-1)) <| pcons2 (.int 2) <| pcons2 (.int (10 ^ 6 + 1)) <| pcons2 (.int (-10 ^ 39)) <| pcons2 (.str "") <| pcons2 (.str "a") <| pcons2 (.str "vars x")
      <| pcons2 (.tup (.of e1) .nil) <| pcons2 (.tup (.of e2) (.cons (.int 0) .nil)) <| pcons2 (.tup (.of e3) (.cons (.int 1) (.cons (.int 0) .nil))) <| pcons2 (.str "9x")
      <| pcons2 (.lst (.of e5) .nil) <| pcons2 (.lst (.of e6) (.cons (.int 1) .nil)) <| pcons2 (.str "A") <| pcons (.inr ⟨d7, [], [], rfl, e7, .nil, rfl⟩) <| pcons (.inr ⟨d8, _, _, rfl, e8, .cons ⟨rfl, rfl⟩ .nil, rfl⟩)
      <| pcons2 (.tup (.of e9) (.cons (.str "x") .nil)) <| pcons2 (.tup (.of e11) (.cons (.str "a") (.cons (.tup (.of e10) (.cons (.int 1) (.cons (.int 0) .nil))) .nil))) <| pcons2 (.tup (.of e13) (.cons (.tup (.of e12) (.cons (.int 1) (.cons (.int 0) .nil))) .nil)) <| pcons2 (.tup (.of e14) (.cons (.str "row") .nil)) <| pcons2 (.tup (.of e15) (.cons .non .nil)) <| pcons2 (.str "abcdefghi") <| pcons2 (.str "x y") pnil)
    refine ⟨_, rfl, _, rfl, p, l17, _, rfl, hp.same (s0.trans z), n17.2.1, (ne_of_none q16 n17.1).symm, ?_, ?_, fun i x H' ei hp' bt => ?_⟩
    · show 0 < 28
      decide
    · show 28 ≤ 1000
      decide
    · exact k x H' ((things_at all menu_fine ei).same (same_dels bt)) hp' fun b u e nb => bt b u ((s0.trans z) b u e) nb
end
end K5
set_option Elab.async false
set_option linter.all false
set_option maxRecDepth 100000
set_option maxHeartbeats 8000000
namespace Ow
open PySem PySem.Spec PyProof.Rows L2 Gd Rl
/-! x == y, x != y by the class's own __eq__ -/
theorem slot_ne : PySem.Slot "object" "__ne__" "object.__ne__" :=
  .of (owner := "object") (n := "__ne__") (by rw [typeLookup_type, builtinLookup_eq_fast]; kernel_rfl) (by decide +kernel) (by decide +kernel) (by decide +kernel)
    (by first | exact .inl (by decide +kernel) | exact .inr (by decide +kernel)) (by rw [isSubtype_type]; kernel_rfl)
section
variable {X : Cx} {k : Nat} {f C : Addr} {fd : FuncData} {sp : Sp} {x1 x2 : Str}
theorem call_dn2 {pins : List (Addr × Obj)} {σ : L2.St} {H : Hp} {s : Shared} {Q : VK} {A : Around} {u v : V} {p q : Value} {Ex : Value → Shared → Prop} (F : FnOk X.prog X.w X.K X.mg X.base CX0 k f fd [x1, x2] sp) (hr : Room k A) (e0 : L2.Env0 X.prog X.w X.K X.mg X.base A X.stack s H) (hb : Binds X.K fd [x1, x2] []) (I : Inv X pins σ H s)
    (r1 : RelV u p) (r2 : RelV v q) (h : sp [u, v] H Q E0) : wpAny (model X.prog X.w) A (call (.ref f) [p, q]) (EP X pins σ Q) Ex s := by
  refine wpAny_call (codeAny_mono (F.run A X.stack s H ⟨[p, q], []⟩ [p, q] [u, v] Q E0 hr e0 (hb s [p, q] I.kIn rfl) (.cons r1 (.cons r2 .nil)) h) fun r s' hq => ?_)
  cases r with
  | error er => exact hq.elim
  | ok fl =>
    cases fl with
    | ret u => exact I.after hq
    | next => exact hq.elim
    | brk => exact hq.elim
    | cont => exact hq.elim
def rEqO (K : PySem.W.Frag) (C : Addr) (sp : Sp) : R2 := fun x y H Q => ∃ (a dx : Addr) (fs : List (Str × V)) (t : Value), x = .ref a ∧ H a = some (.ins C dx fs) ∧ TyX K H y t ∧ PySem.W.notFirst K C t = true ∧ sp [x, y] H Q E0
theorem op_eqO (F : FnOk X.prog X.w X.K X.mg X.base CX0 k f fd [x1, x2] sp) (hr : Room k X.A) (hb : Binds X.K fd [x1, x2] []) (d : Dun X.K C "__eq__" f) : OpR X (compareOp .Eq) (rEqO X.K C sp) := by
  intro pins s σ H x y v u Q I rx ry h
  obtain ⟨a, dx, fs, t, rfl, ea, ty, hn, q⟩ := h
  cases rx
  obtain ⟨mA, O, _, _, _, _⟩ := ins_get I.hok ea
  obtain ⟨od, J, _⟩ := O.look
  obtain ⟨P, Z, hP, _⟩ := kit_of I ry ty
  obtain ⟨m, hF⟩ := I.fr
  show wpAny _ _ (richCompare .Eq _ _) _ _ _
  refine PySem.W.cmp_K (op := .Eq) (tb := t) hr.units0 hF I.ok.mod.kin J (Z.ty _ _ I.kIn hP) hn d.at_ d.fn ?_
  refine wpAny_mono (call_dn2 F hr I.env0 hb I (show L2.RelV (.ref a) (.ref a) from rfl) ry q) (fun w s' z => ?_) fun _ _ x => x
  obtain ⟨z', H', I', rz, qz⟩ := z
  exact SlX.cmpback rz ⟨z', H', I', rz, qz⟩
/-- what != asks of the class: no own __ne__ -/
structure DunNe (K : PySem.W.Frag) (C : Addr) : Prop where
  at_ : PySem.W.findIn K (.ref C) "__ne__" = some (some (.builtin "object.__ne__"))
  ob : PySem.W.mroIn K C (.type "object") = some true
def rNeO (K : PySem.W.Frag) (C : Addr) (sp : Sp) : R2 := fun x y H Q => ∃ (a dx : Addr) (fs : List (Str × V)) (t : Value), x = .ref a ∧ H a = some (.ins C dx fs) ∧ TyX K H y t ∧ PySem.W.notFirst K C t = true ∧ sp [x, y] H (fun v H' => ∃ b, v = .bl b ∧ Q (.bl (!b)) H') E0
theorem objNe_K {A : Around} {E : Value → Shared → Prop} {s : Shared} {K : PySem.W.Frag} {prog : Program} {w : World} {a g C' : Addr} {ox : Obj} {odd : Option Obj} {u : Value} (hu : A.units < cLine) (X : K.In s.heap) (I : PySem.W.InstAt s.heap a ox C' odd) (hs : PySem.W.findIn K (.ref C') "__eq__" = some (some (.ref g))) (hf : PySem.W.isFn K (.ref g) = true) {Q : Fin → Shared → Prop}
    (hcall : wpAny (model prog w) A (call (.ref g) [.ref a, u]) (fun v s' => ∃ b, v = .bool b ∧ Q (.done (.ret (.bool (!b)))) s') E s) :
    wpAny (model prog w) A (Builtin.«object.__ne__» ⟨[.ref a, u], []⟩) Q E s := by
  unfold Builtin.«object.__ne__»
  repeat (first
    | with_reducible refine wpAny_cRoomFor hu ?_
    | (refine wpAny_bind (m := callSpecialIfBound? (.ref a) (Str.ofString "__eq__") [u])
        (PySem.W.ifBound_K X I hs hf (wpAny_mono hcall (fun r s' hr => by
          obtain ⟨b, rfl, hq⟩ := hr
          repeat (first | exact hq | exact wpAny_pure hq | exact wpAny_truthy_bool hq | (refine wpAny_bind (m := truthy (.bool _)) (wpAny_truthy_bool ?_)) | wp_step)) fun _ _ e => e)))
    | wp_step)
theorem op_neO (F : FnOk X.prog X.w X.K X.mg X.base CX0 k f fd [x1, x2] sp) (hr : Room (k + 1) X.A) (hb : Binds X.K fd [x1, x2] []) (d : Dun X.K C "__eq__" f) (dn : DunNe X.K C) : OpR X (compareOp .NotEq) (rNeO X.K C sp) := by
  intro pins s σ H x y v u Q I rx ry h
  obtain ⟨a, dx, fs, t, rfl, ea, ty, hn, q⟩ := h
  cases rx
  obtain ⟨mA, O, _, _, _, _⟩ := ins_get I.hok ea
  obtain ⟨od, J, _⟩ := O.look
  obtain ⟨P, Z, hP, _⟩ := kit_of I ry ty
  have hu1 : X.A.in1.units < cLine := hr.in1.units0
  have hu0 : X.A.units < cLine := hr.units0
  have one : wpAny (model X.prog X.w) X.A (tryCompare (.ref a) "__ne__" u) (fun r s' => ∃ v, r = some v ∧ EP X pins σ Q v s') X.xe s := by
    unfold tryCompare
    simp only [callSpecialIfBound?, bindSpecialIfBound?]
    have call_ : wpAny (model X.prog X.w) X.A (call (.builtin "object.__ne__") [.ref a, u]) (fun v s' => ∃ b, v = .bool b ∧ EP X pins σ Q (.bool b) s') X.xe s := by
      refine wpAny_call (codeAny_call_builtin slot_ne.plain PySem.F.cmpEntry_ne (PySem.W.check_slot PySem.F.cmpKind_ne PySem.F.cmpSplit_ne (J.type.andThen (PySem.W.looks_subIn I.kIn dn.ob)) (PySem.F.cmpArgs_ne _ _)
        (objNe_K hu1 I.kIn J d.at_ d.fn (wpAny_mono (call_dn2 F hr.in1 I.env0.in1 hb I (show L2.RelV (.ref a) (.ref a) from rfl) ry q) (fun w s' z => ?_) fun _ _ e => e))))
      obtain ⟨z', H', I', rz, b, eb, qz⟩ := z
      subst eb
      cases rz
      exact ⟨b, rfl, !b, rfl, .bl (!b), H', I', rfl, qz⟩
    have fin : wpAny (model X.prog X.w) X.A (call (.builtin "object.__ne__") ([.ref a] ++ [u]) >>= fun v => pure (some v)) (fun r s' => ∃ b, r = some (.bool b) ∧ EP X pins σ Q (.bool b) s') X.xe s := wpAny_bind (wpAny_mono call_ (fun v s' ⟨b, e, h'⟩ => by subst e; exact wpAny_pure ⟨b, rfl, h'⟩) fun _ _ h' => h')
    refine wpAny_bind (wpAny_mono (Q := fun r s' => ∃ b, r = some (.bool b) ∧ EP X pins σ Q (.bool b) s') ?_ (fun r s' z => ?_) fun _ _ e => e)
    · refine wpAny_holding (wpAny_bind (wpAny_bind (wpAny_bind (J.type.here ((PySem.W.looks_findIn I.kIn dn.at_).here ?_)))))
      refine wpAny_bind (wpAny_askSetting (wpAny_ite ?_))
      split
      · refine wpAny_bind ?_
        rw [slot_ne.bind]
        exact wpAny_pure (wpAny_pure fin)
      · refine wpAny_tryCatch (wpAny_bind ?_)
        rw [slot_ne.bind]
        exact wpAny_pure (wpAny_pure fin)
    · obtain ⟨b, rfl, h'⟩ := z
      exact wpAny_pure ⟨_, rfl, h'⟩
  show wpAny _ _ (richCompare .NotEq _ _) _ _ _
  unfold richCompare
  simp only [oneThing_ref]
  refine wpAny_holding (wpAny_bind (wpAny_cRoomFor hu0 ?_))
  refine wpAny_bind (J.type.here (wpAny_bind ((Z.ty _ _ I.kIn hP).here ?_)))
  split
  · rename_i q2
    have e : PySem.W.subIn X.K t (.ref C) = some false := by
      rcases Bool.or_eq_true_iff.mp hn with e | e
      · rw [beq_iff_eq.mp e] at q2; simp at q2
      · exact beq_iff_eq.mp e
    refine wpAny_bind ((PySem.W.looks_subIn I.kIn e).here ?_)
    simp only [Bool.false_eq_true, if_false]
    refine wpAny_bind (wpAny_mono one (fun r s' z => ?_) fun _ _ e => e)
    obtain ⟨v, rfl, hq⟩ := z
    exact wpAny_pure hq
  · refine wpAny_bind (wpAny_pure ?_)
    simp only [Bool.false_eq_true, if_false]
    refine wpAny_bind (wpAny_mono one (fun r s' z => ?_) fun _ _ e => e)
    obtain ⟨v, rfl, hq⟩ := z
    exact wpAny_pure hq
end
end Ow
set_option Elab.async false
set_option linter.all false
set_option maxRecDepth 100000
set_option maxHeartbeats 8000000
namespace PySem.SeqAt
open AutoSeq1 (wpAny_loadPart')
open MeetsSeq
/-! data == an own object: the data's own __eq__ doesn't know it -/
section
variable {K : PySem.W.Frag} {C dx l x : Addr} {items : Array Value} {n : Nat} {dd : Option Addr} {sl : Array (Option Value)}
theorem int_own_bool (b : Bool) : Meets (Builtin.«int.__eq__» ⟨[.bool b, .ref x], []⟩) (fun _ R s => s.heap.get? x = some (PySem.W.instObj C dx) ∧ R (.ok (.ret .notImplemented)) s) :=
  .of_wp fun prog w A R s h => by obtain ⟨hp, g, d, tk, os⟩ := s; obtain ⟨hl, h⟩ := h; wp_walk using wpAny_loadPart' hl, wpAny_load hl; exact ⟨_, rfl, h⟩
theorem int_own_int (b : Int) (u : Tok) : Meets (Builtin.«int.__eq__» ⟨[.int b u, .ref x], []⟩) (fun _ R s => s.heap.get? x = some (PySem.W.instObj C dx) ∧ R (.ok (.ret .notImplemented)) s) :=
  .of_wp fun prog w A R s h => by obtain ⟨hp, g, d, tk, os⟩ := s; obtain ⟨hl, h⟩ := h; wp_walk using wpAny_loadPart' hl, wpAny_load hl; exact ⟨_, rfl, h⟩
theorem str_own (b : Str) (u : Tok) : Meets (Builtin.«str.__eq__» ⟨[.str b u, .ref x], []⟩) (fun _ R s => s.heap.get? x = some (PySem.W.instObj C dx) ∧ R (.ok (.ret .notImplemented)) s) :=
  .of_wp fun prog w A R s h => by obtain ⟨hp, g, d, tk, os⟩ := s; obtain ⟨hl, h⟩ := h; wp_walk using wpAny_loadPart' hl, wpAny_load hl; exact ⟨_, rfl, h⟩
theorem list_own (hm : PySem.W.subIn K (.ref C) (.type "list") = some false) : Meets (Builtin.«list.__eq__» ⟨[.ref l, .ref x], []⟩) (fun _ R s => K.In s.heap ∧ s.heap.get? x = some (PySem.W.instObj C dx) ∧ R (.ok (.ret .notImplemented)) s) :=
  .of_wp fun prog w A R s h => by obtain ⟨hp, g, d, tk, os⟩ := s; obtain ⟨hk, hl, h⟩ := h; wp_walk using wpAny_loadPart' hl, (PySem.W.looks_subIn hk hm).here; exact ⟨_, rfl, h⟩
theorem tuple_own (hm : PySem.W.subIn K (.ref C) (.type "tuple") = some false) : Meets (Builtin.«tuple.__eq__» ⟨[.ref l, .ref x], []⟩) (fun _ R s => K.In s.heap ∧ s.heap.get? x = some (PySem.W.instObj C dx) ∧ R (.ok (.ret .notImplemented)) s) :=
  .of_wp fun prog w A R s h => by obtain ⟨hp, g, d, tk, os⟩ := s; obtain ⟨hk, hl, h⟩ := h; wp_walk using wpAny_loadPart' hl, (PySem.W.looks_subIn hk hm).here; exact ⟨_, rfl, h⟩
theorem dict_own (hm : PySem.W.subIn K (.ref C) (.type "dict") = some false) : Meets (Builtin.«dict.__eq__» ⟨[.ref l, .ref x], []⟩) (fun _ R s => s.TypeIs (.ref l) "dict" ∧ K.In s.heap ∧ s.heap.get? x = some (PySem.W.instObj C dx) ∧ R (.ok (.ret .notImplemented)) s) :=
  .of_wp fun prog w A R s h => by obtain ⟨hp, g, d, tk, os⟩ := s; obtain ⟨ht, hk, hl, h⟩ := h; wp_walk using wpAny_loadPart' hl, (PySem.W.looks_subIn hk hm).here, wpAny_typeOf ht; exact ⟨_, rfl, h⟩
end
end PySem.SeqAt
namespace Ow
open PySem PySem.Spec PyProof.Rows L2 Gd Rl
inductive DatV (K : PySem.W.Frag) (H : Hp) : V → Prop where
  | non : DatV K H .non
  | bl (b : Bool) : DatV K H (.bl b)
  | int (i : Int) : DatV K H (.int i)
  | str (z : Str) : DatV K H (.str z)
  | lst {a : Addr} {xs : List V} (h : SqL K H a xs) : DatV K H (.ref a)
  | tup {a : Addr} {xs : List V} (h : SqT K H a xs) : DatV K H (.ref a)
  | dk {a : Addr} {kvs : List (Key × V)} (h : H a = some (.dK kvs)) : DatV K H (.ref a)
/-- the class is of no built-in kind -/
def noTy : List String := ["NoneType", "bool", "int", "str", "list", "tuple", "dict"]
def OwnNo (K : PySem.W.Frag) (C : Addr) : Prop := ∀ T ∈ noTy, PySem.W.subIn K (.ref C) (.type T) = some false
section
variable {X : Cx} {k : Nat} {f C : Addr} {fd : FuncData} {sp : Sp} {x1 x2 : Str}
theorem dat_no {pins : List (Addr × Obj)} {σ : L2.St} {H : Hp} {s : Shared} {x : V} {u : Value} {b dx : Addr} (I : Inv X pins σ H s) (rx : L2.RelV x u) (D : DatV X.K H x) (hb : s.heap.get? b = some (PySem.W.instObj C dx)) (no : OwnNo X.K C) :
    ∃ (T id : String), s.TypeIs u T ∧ T ∈ noTy ∧ PySem.Slot T (cmpInfo .Eq).2.1 id ∧ ∀ (A : Around) (E Q' : Value → Shared → Prop), Q' .notImplemented s → wpAny (model X.prog X.w) A (call (.builtin id) [u, .ref b]) Q' E s := by
  cases D with
  | non =>
    cases (show u = Value.none from rx)
    exact ⟨"NoneType", _, rfl, by decide, PySem.F.slot_NoneType_eq, fun A E Q' hq => PySem.call_gives PySem.F.slot_NoneType_eq rfl PySem.F.entry_NoneType_eq (PySem.F.args_NoneType_eq_2 _ _) (PySem.SeqAt.NoneType___eq___none_ref_0 b) hq⟩
  | bl y =>
    cases (show u = Value.bool y from rx)
    exact ⟨"bool", _, rfl, by decide, PySem.F.slot_bool_eq, fun A E Q' hq => PySem.call_meets PySem.F.slot_bool_eq rfl PySem.F.entry_int_eq (PySem.F.args_int_eq_2 _ _) (PySem.SeqAt.int_own_bool (C := C) (dx := dx) y) ⟨hb, hq⟩⟩
  | int i =>
    obtain ⟨t, q⟩ := (show ∃ t, u = Value.int i t from rx)
    cases q
    exact ⟨"int", _, typeIs_int s i t, by decide, PySem.F.slot_int_eq, fun A E Q' hq => PySem.call_meets PySem.F.slot_int_eq (typeIs_int s i t) PySem.F.entry_int_eq (PySem.F.args_int_eq_2 _ _) (PySem.SeqAt.int_own_int (C := C) (dx := dx) i t) ⟨hb, hq⟩⟩
  | str z =>
    obtain ⟨t, q⟩ := (show ∃ t, u = Value.str z t from rx)
    cases q
    exact ⟨"str", _, typeIs_str s z t, by decide, PySem.F.slot_str_eq, fun A E Q' hq => PySem.call_meets PySem.F.slot_str_eq (typeIs_str s z t) PySem.F.entry_str_eq (PySem.F.args_str_eq_2 _ _) (PySem.SeqAt.str_own (C := C) (dx := dx) z t) ⟨hb, hq⟩⟩
  | @lst a xs h =>
    cases (show u = Value.ref a from rx)
    obtain ⟨its, r, pl, hz⟩ := I.list h
    obtain ⟨o, ho, hc, n, hd⟩ := pl.isList
    exact ⟨"list", _, ⟨o, ho, hc⟩, by decide, PySem.F.slot_list_eq, fun A E Q' hq => PySem.call_meets PySem.F.slot_list_eq ⟨o, ho, hc⟩ PySem.F.entry_list_eq (PySem.F.args_list_eq_2 _ _) (PySem.SeqAt.list_own (K := X.K) (C := C) (dx := dx) (no "list" (by decide))) ⟨I.kIn, hb, hq⟩⟩
  | @tup a xs h =>
    cases (show u = Value.ref a from rx)
    obtain ⟨its, r, pl, hz⟩ := I.tuple h
    obtain ⟨o, ho, hc, n, hd⟩ := pl
    exact ⟨"tuple", _, ⟨o, ho, hc⟩, by decide, PySem.F.slot_tuple_eq, fun A E Q' hq => PySem.call_meets PySem.F.slot_tuple_eq ⟨o, ho, hc⟩ PySem.F.entry_tuple_eq (PySem.F.args_tuple_eq_2 _ _) (PySem.SeqAt.tuple_own (K := X.K) (C := C) (dx := dx) (no "tuple" (by decide))) ⟨I.kIn, hb, hq⟩⟩
  | @dk a kvs h =>
    cases (show u = Value.ref a from rx)
    obtain ⟨_, _, vs, _, o, es, ep, h1, h2, _⟩ := (show ObjOk X.prog X.w H s.heap a (.dK kvs) from I.hok a _ h)
    have ht : s.TypeIs (.ref a) "dict" := ⟨o, h1, h2.1⟩
    exact ⟨"dict", _, ht, by decide, PySem.F.slot_dict_eq, fun A E Q' hq => PySem.call_meets PySem.F.slot_dict_eq ht PySem.F.entry_dict_eq (PySem.F.args_dict_eq_2 _ _) (PySem.SeqAt.dict_own (K := X.K) (C := C) (dx := dx) (no "dict" (by decide))) ⟨ht, I.kIn, hb, hq⟩⟩
/-- data == own object -/
def rEqDO (K : PySem.W.Frag) (C : Addr) (sp : Sp) : R2 := fun x y H Q => ∃ (b dx : Addr) (fs : List (Str × V)), y = .ref b ∧ H b = some (.ins C dx fs) ∧ DatV K H x ∧ sp [y, x] H Q E0
theorem op_eqDO (F : FnOk X.prog X.w X.K X.mg X.base CX0 k f fd [x1, x2] sp) (hr : Room k X.A) (hb : Binds X.K fd [x1, x2] []) (d : Dun X.K C "__eq__" f) (no : OwnNo X.K C) : OpR X (compareOp .Eq) (rEqDO X.K C sp) := by
  intro pins s σ H x y v u Q I rx ry h
  obtain ⟨b, dx, fs, rfl, eb, D, q⟩ := h
  cases ry
  obtain ⟨mA, O, _, _, _, _⟩ := ins_get I.hok eb
  obtain ⟨od, J, _⟩ := O.look
  obtain ⟨T, id, ht, hT, h1, hc1⟩ := dat_no (C := C) (dx := dx) I rx D O.obj no
  have hu0 : X.A.units < cLine := hr.units0
  have two : wpAny (model X.prog X.w) X.A (tryCompare (.ref b) "__eq__" v) (fun r s' => ∃ v, r = some v ∧ EP X pins σ Q v s') X.xe s := by
    unfold tryCompare
    refine wpAny_bind (PySem.W.ifBound_K I.kIn J d.at_ d.fn (wpAny_mono (call_dn2 F hr I.env0 hb I (show L2.RelV (.ref b) (.ref b) from rfl) rx q) (fun w s' z => ?_) fun _ _ x => x))
    obtain ⟨z', H', I', rz, qz⟩ := z
    have back : EP X pins σ Q w s' := ⟨z', H', I', rz, qz⟩
    have cb : PySem.W.CmpBack (EP X pins σ Q) w s' := SlX.cmpback rz back
    cases w <;> first | exact cb.elim | exact wpAny_pure ⟨_, rfl, back⟩
  show wpAny _ _ (richCompare .Eq _ _) _ _ _
  rcases hi : cmpInfo CmpOp.Eq with ⟨sym, fE, rE⟩
  have hi2 := hi
  rw [hi] at h1
  simp only [richCompare, hi, ht.oneThing_none]
  refine wpAny_holding (wpAny_bind (wpAny_cRoomFor hu0 ?_))
  refine wpAny_bind (wpAny_typeOf ht (wpAny_bind (J.type.here ?_)))
  have hne : (Value.type T != Value.ref C) = true := rfl
  simp only [hne, if_true]
  refine wpAny_bind ((PySem.W.looks_subIn I.kIn (no T hT)).here ?_)
  simp only [Bool.false_eq_true, if_false, Bool.not_false, if_true]
  refine wpAny_bind (m := tryCompare v _ (.ref b)) (wpAny_tryCompare_declines ht h1 (hc1 _ _ _ ⟨rfl, ?_⟩))
  cases hi2
  refine wpAny_bind (wpAny_mono two (fun r s' z => ?_) fun _ _ e => e)
  obtain ⟨w, rfl, hq⟩ := z
  exact wpAny_pure hq
end
end Ow
set_option Elab.async false
set_option linter.all false
set_option maxRecDepth 100000
set_option maxHeartbeats 8000000
namespace Ow
open PySem PySem.Spec PyProof.Rows L2 Gd Rl
open PySem.SeqAt
open AutoSeq1 (wpAny_loadPart')
open MeetsSeq MeetsSeq2 MeetsSeq3 SeqRoads2
/-! x in a list, x an own object: each item asked by == -/
/-- an item == an own object: an own object, or data -/
def rEqI (K : PySem.W.Frag) (C : Addr) (sp : Sp) : R2 := fun x y H Q => (∃ (a dx : Addr) (fs : List (Str × V)) (t : Value), x = .ref a ∧ H a = some (.ins C dx fs) ∧ TyX K H y t ∧ PySem.W.notFirst K C t = true ∧ sp [x, y] H Q E0) ∨ (∃ (b dx : Addr) (fs : List (Str × V)), y = .ref b ∧ H b = some (.ins C dx fs) ∧ DatV K H x ∧ sp [y, x] H Q E0)
section
variable {X : Cx} {k : Nat} {f C : Addr} {fd : FuncData} {sp : Sp} {x1 x2 : Str}
theorem rc_item {pins : List (Addr × Obj)} {σ : L2.St} {H : Hp} {s : Shared} {Q : VK} {A : Around} {x y : V} {v u : Value} {Ex : Value → Shared → Prop} (F : FnOk X.prog X.w X.K X.mg X.base CX0 k f fd [x1, x2] sp) (hr : Room k A) (e0 : L2.Env0 X.prog X.w X.K X.mg X.base A X.stack s H) (hb : Binds X.K fd [x1, x2] []) (d : Dun X.K C "__eq__" f) (no : OwnNo X.K C)
    (I : Inv X pins σ H s) (rx : L2.RelV x v) (ry : L2.RelV y u) (h : rEqI X.K C sp x y H Q) : wpAny (model X.prog X.w) A (richCompare .Eq v u) (EP X pins σ Q) Ex s := by
  rcases h with ⟨a, dx, fs, t, rfl, ea, ty, hn, q⟩ | ⟨b, dx, fs, rfl, eb, D, q⟩
  · cases rx
    obtain ⟨mA, O, _, _, _, _⟩ := ins_get I.hok ea
    obtain ⟨od, J, _⟩ := O.look
    obtain ⟨P, Z, hP, _⟩ := kit_of I ry ty
    obtain ⟨m, hF⟩ := I.fr
    refine PySem.W.cmp_K (op := .Eq) (tb := t) hr.units0 hF I.ok.mod.kin J (Z.ty _ _ I.kIn hP) hn d.at_ d.fn ?_
    refine wpAny_mono (call_dn2 F hr e0 hb I (show L2.RelV (.ref a) (.ref a) from rfl) ry q) (fun w s' z => ?_) fun _ _ x => x
    obtain ⟨z', H', I', rz, qz⟩ := z
    exact SlX.cmpback rz ⟨z', H', I', rz, qz⟩
  · cases ry
    obtain ⟨mA, O, _, _, _, _⟩ := ins_get I.hok eb
    obtain ⟨od, J, _⟩ := O.look
    obtain ⟨T, id, ht, hT, h1, hc1⟩ := dat_no (C := C) (dx := dx) I rx D O.obj no
    have hu0 : A.units < cLine := hr.units0
    have two : wpAny (model X.prog X.w) A (tryCompare (.ref b) "__eq__" v) (fun r s' => ∃ v, r = some v ∧ EP X pins σ Q v s') Ex s := by
      unfold tryCompare
      refine wpAny_bind (PySem.W.ifBound_K I.kIn J d.at_ d.fn (wpAny_mono (call_dn2 F hr e0 hb I (show L2.RelV (.ref b) (.ref b) from rfl) rx q) (fun w s' z => ?_) fun _ _ x => x))
      obtain ⟨z', H', I', rz, qz⟩ := z
      have back : EP X pins σ Q w s' := ⟨z', H', I', rz, qz⟩
      have cb : PySem.W.CmpBack (EP X pins σ Q) w s' := SlX.cmpback rz back
      cases w <;> first | exact cb.elim | exact wpAny_pure ⟨_, rfl, back⟩
    rcases hi : cmpInfo CmpOp.Eq with ⟨sym, fE, rE⟩
    have hi2 := hi
    rw [hi] at h1
    simp only [richCompare, hi, ht.oneThing_none]
    refine wpAny_holding (wpAny_bind (wpAny_cRoomFor hu0 ?_))
    refine wpAny_bind (wpAny_typeOf ht (wpAny_bind (J.type.here ?_)))
    have hne : (Value.type T != Value.ref C) = true := rfl
    simp only [hne, if_true]
    refine wpAny_bind ((PySem.W.looks_subIn I.kIn (no T hT)).here ?_)
    simp only [Bool.false_eq_true, if_false, Bool.not_false, if_true]
    refine wpAny_bind (m := tryCompare v _ (.ref b)) (wpAny_tryCompare_declines ht h1 (hc1 _ _ _ ⟨rfl, ?_⟩))
    cases hi2
    refine wpAny_bind (wpAny_mono two (fun r s' z => ?_) fun _ _ e => e)
    obtain ⟨w, rfl, hq⟩ := z
    exact wpAny_pure hq
theorem eqBool_item {M : Model} {A : Around} {E : Value → Shared → Prop} {s : Shared} {v : Value} {a : Addr} {Q : Bool → Shared → Prop} (ne : v ≠ .ref a) (h : wpAny M A (richCompare .Eq v (.ref a)) (fun r s' => ∃ b, r = .bool b ∧ Q b s') E s) : wpAny M A (eqBool v (.ref a)) Q E s := by
  unfold eqBool
  refine wpAny_holding ?_
  refine wpAny_ite_split (fun hab => absurd (eq_of_beq hab) ne) (fun _ => ?_)
  have fin : wpAny M A (richCompare .Eq v (.ref a) >>= truthOfDropped) Q E s := wpAny_bind (wpAny_mono h (fun r s' z => by
    obtain ⟨b, rfl, q⟩ := z
    exact wpAny_truthy_bool q) fun _ _ e => e)
  cases v <;> exact fin
theorem eqBool_same {M : Model} {A : Around} {E : Value → Shared → Prop} {s : Shared} {a : Addr} {Q : Bool → Shared → Prop} (h : Q true s) : wpAny M A (eqBool (.ref a) (.ref a)) Q E s := by
  unfold eqBool
  refine wpAny_holding ?_
  refine wpAny_ite_split (fun hab => ?_) (fun hn => absurd (show (Value.ref a == Value.ref a) = true by simp) hn)
  exact wpAny_bind (wpAny_rule (wpAny_pure h))
/-- the items gone through -/
def InRun (K : PySem.W.Frag) (C : Addr) (sp : Sp) (p : Addr) (xs : List V) (a : Addr) (P : Nat → Hp → Prop) (Qt Qf : Hp → Prop) : Prop :=
  (∀ i H y, xs[i]? = some y → P i H → SqL K H p xs ∧ ((y = .ref a ∧ Qt H) ∨ ((y = .ref a → ∃ (dx : Addr) (fs : List (Str × V)), H a = some (.ins C dx fs) ∧ DatV K H y) ∧ rEqI K C sp y (.ref a) H fun v H' => ∃ b, v = .bl b ∧ (b = true → Qt H') ∧ (b = false → P (i + 1) H')))) ∧ (∀ H, P xs.length H → SqL K H p xs ∧ Qf H)
theorem contains_loopO {pins : List (Addr × Obj)} {σ : L2.St} {p a : Addr} {xs : List V} {P : Nat → Hp → Prop} {Qt Qf : Hp → Prop} (F : FnOk X.prog X.w X.K X.mg X.base CX0 k f fd [x1, x2] sp) (hb : Binds X.K fd [x1, x2] []) (d : Dun X.K C "__eq__" f) (no : OwnNo X.K C) (run : InRun X.K C sp p xs a P Qt Qf) {A : Around} {R : Result → Shared → Prop} (hr : Room k A.in1)
    (e0 : ∀ (s : Shared) (H : Hp), Inv X pins σ H s → L2.Env0 X.prog X.w X.K X.mg X.base A.in1 X.stack s H) (hR : ∀ (b : Bool) (H' : Hp) (s' : Shared), Inv X pins σ H' s' → (b = true → Qt H') → (b = false → Qf H') → R (.ok (.ret (.bool b))) s') :
    ∀ (j i : Nat) (s : Shared) (H : Hp), xs.length - i = j → i ≤ xs.length → Inv X pins σ H s → P i H →
      wpAny (model X.prog X.w) A.in1 (Builtin.«list.__contains__.loop» ⟨[.ref p, .ref a, rawInt i], []⟩) (fun fin s' => match fin with | .done f => R (.ok f) s' | .again c' => c'.quiet = true ∧ codeAny (model X.prog X.w) A c' R s') (fun e s' => R (.error e) s') s := by
  intro j
  induction j with
  | zero =>
    intro i s H hk hi I hP
    have ei : i = xs.length := by omega
    subst ei
    obtain ⟨hs, hq⟩ := run.2 H hP
    obtain ⟨its, r, pl, hz⟩ := I.list hs
    obtain ⟨⟨cls, dd, data, sl⟩, ho, hc, n, hd⟩ := pl.isList
    simp only at hc hd
    subst hc hd
    have rl := r.length
    have fin : R (.ok (.ret (.bool false))) s := hR false H s I (fun e => by cases e) (fun _ => hq)
    obtain ⟨hp, g, dr, tk, os⟩ := s
    wp_walk using wpAny_loadPart' ho
    have hi : its.toArray[((xs.length : Nat) : Int).toNat]? = none := by simp; omega
    rw [hi]
    wp_walk
    exact fin
  | succ j ih =>
    intro i s H hk hi I hP
    have hlt : i < xs.length := by omega
    obtain ⟨hs, hq⟩ := run.1 i H xs[i] (List.getElem?_eq_getElem hlt) hP
    obtain ⟨its, r, pl, hz⟩ := I.list hs
    obtain ⟨⟨cls, dd, data, sl⟩, ho, hc, n, hd⟩ := pl.isList
    simp only at hc hd
    subst hc hd
    have rl := r.length
    have hlt2 : i < its.length := by omega
    have ri : L2.RelV xs[i] its[i] := by
      obtain ⟨w, ew, rw'⟩ := L2.Vals.get r (List.getElem?_eq_getElem hlt)
      rw [List.getElem?_eq_getElem hlt2] at ew
      exact Option.some.inj ew ▸ rw'
    have E1 := e0 s H I
    have ask : ∀ (E : Value → Shared → Prop) (Q' : Bool → Shared → Prop), (∀ (b : Bool) (H' : Hp) (s' : Shared), Inv X pins σ H' s' → (b = true → Qt H') → (b = false → P (i + 1) H') → Q' b s') → wpAny (model X.prog X.w) A.in1 (eqBool its[i] (.ref a)) Q' E s := fun E Q' hQ => by
      rcases hq with ⟨ey, hq⟩ | ⟨ny, hq⟩
      · rw [ey] at ri
        rw [show its[i] = .ref a from ri]
        exact eqBool_same (hQ true H s I (fun _ => hq) (fun e => by cases e))
      · refine eqBool_item (fun e => ?_) (wpAny_mono (rc_item F hr E1 hb d no I ri (show L2.RelV (.ref a) (.ref a) from rfl) hq) (fun w s' z => ?_) fun _ _ e => e)
        · have ri2 := ri
          rw [e] at ri
          have ey : xs[i] = .ref a := by
            generalize xs[i] = y at ri
            cases y with
            | ref b => cases (show Value.ref a = Value.ref b from ri); rfl
            | non => cases (show Value.ref a = Value.none from ri)
            | bl b => cases (show Value.ref a = Value.bool b from ri)
            | int n => obtain ⟨t, q⟩ := (show ∃ t, Value.ref a = Value.int n t from ri); cases q
            | str n => obtain ⟨t, q⟩ := (show ∃ t, Value.ref a = Value.str n t from ri); cases q
            | byt n => obtain ⟨t, q⟩ := (show ∃ t, Value.ref a = Value.bytes n t from ri); cases q
            | flt n => obtain ⟨t, q⟩ := (show ∃ t, Value.ref a = Value.float n t from ri); cases q
            | ty n => cases (show Value.ref a = Value.type n from ri)
          obtain ⟨dx, fs, ea, D⟩ := ny ey
          obtain ⟨mA, O, _⟩ := ins_get I.hok ea
          obtain ⟨T, id, ht, _⟩ := dat_no (C := C) (dx := dx) I ri2 D O.obj no
          rw [e] at ht
          obtain ⟨o, ho2, hc2⟩ := ht
          have := O.obj.symm.trans ho2
          cases Option.some.inj this
          cases hc2
        · obtain ⟨z', H', I', rz, b, eb, qt, qp⟩ := z
          subst eb
          cases (show w = Value.bool b from rz)
          exact ⟨b, rfl, hQ b H' s' I' qt qp⟩
    have asc : ∀ {s2 : Shared}, s2 = s2 := rfl
    obtain ⟨hp, g, dr, tk, os⟩ := s
    wp_walk using wpAny_loadPart' ho
    have hi : its.toArray[((i : Nat) : Int).toNat]? = some its[i] := by simp [hlt2]
    rw [hi]
    refine wpAny_bind (ask _ _ fun b H' s' I' qt qp => ?_)
    cases b with
    | true =>
      wp_walk
      exact hR true H' s' I' qt (fun e => by cases e)
    | false =>
      have hc : ((i : Int) + 1) = ((i + 1 : Nat) : Int) := by push_cast; rfl
      wp_walk
      rw [hc]
      exact ⟨plainId_quiet plain_contains_loop _, codeAny_builtin entry_contains_loop (by
        rw [Around.under_plainId plain_contains_loop _]
        exact ih (i + 1) s' H' (by omega) (by omega) I' (qp rfl))⟩
theorem contains_O {pins : List (Addr × Obj)} {σ : L2.St} {s : Shared} {H : Hp} {p a : Addr} {xs : List V} {P : Nat → Hp → Prop} {Qt Qf : Hp → Prop} {E : Value → Shared → Prop} {Q : Value → Shared → Prop} (F : FnOk X.prog X.w X.K X.mg X.base CX0 k f fd [x1, x2] sp) (hr : Room (k + 1) X.A) (hb : Binds X.K fd [x1, x2] []) (d : Dun X.K C "__eq__" f) (no : OwnNo X.K C) (run : InRun X.K C sp p xs a P Qt Qf)
    (I : Inv X pins σ H s) (hP : P 0 H) (hs : SqL X.K H p xs) (hQ : ∀ (b : Bool) (H' : Hp) (s' : Shared), Inv X pins σ H' s' → (b = true → Qt H') → (b = false → Qf H') → Q (.bool b) s') : wpAny (model X.prog X.w) X.A (call (.builtin "list.__contains__") [.ref p, .ref a]) Q E s := by
  obtain ⟨its, r, pl, hz⟩ := I.list hs
  obtain ⟨⟨cls, dd, data, sl⟩, ho, hc, n, hd⟩ := pl.isList
  simp only at hc hd
  subst hc hd
  refine wpAny_call (codeAny_call_builtin PySem.F.slot_list_contains.plain PySem.F.entry_list_contains (PySem.F.slot_list_contains.check _ _ _ _ _ _ _ _ ⟨_, ho, rfl⟩ (PySem.F.args_list_contains_2 _ _) ?_))
  have loop := contains_loopO F hb d no run (A := X.A) (R := wants Q E) hr.in1 (fun s H I => I.env0.in1) (fun b H' s' I' qt qf => hQ b H' s' I' qt qf) xs.length 0 s H (by omega) (Nat.zero_le _) I hP
  obtain ⟨hp, g, dr, tk, os⟩ := s
  wp_walk using wpAny_loadPart' ho
  exact ⟨plainId_quiet plain_contains_loop _, codeAny_builtin entry_contains_loop (by
    rw [Around.under_plainId plain_contains_loop _]
    exact loop)⟩
def rInO (K : PySem.W.Frag) (C : Addr) (sp : Sp) (neg : Bool) : R2 := fun x y H Q => ∃ (a p : Addr) (xs : List V) (P : Nat → Hp → Prop), x = .ref a ∧ y = .ref p ∧ SqL K H p xs ∧ P 0 H ∧ InRun K C sp p xs a P (fun H' => Q (.bl (!neg)) H') (fun H' => Q (.bl neg) H')
theorem op_inO (F : FnOk X.prog X.w X.K X.mg X.base CX0 k f fd [x1, x2] sp) (hr : Room (k + 1) X.A) (hb : Binds X.K fd [x1, x2] []) (d : Dun X.K C "__eq__" f) (no : OwnNo X.K C) : OpR X (compareOp .In) (rInO X.K C sp false) := by
  intro pins s σ H x y v u Q I rx ry h
  obtain ⟨a, p, xs, P, rfl, rfl, hs, hP, run⟩ := h
  cases rx
  cases ry
  obtain ⟨its, r, pl, hz⟩ := I.list hs
  obtain ⟨o, ho, hc, n, hd⟩ := pl.isList
  show wpAny _ X.A (do return Value.bool (← contains (.ref p) (.ref a)) : Sem Value) _ _ s
  refine wpAny_bind (wpAny_contains_slot ⟨o, ho, hc⟩ PySem.F.slot_list_contains (contains_O F hr hb d no run I hP hs fun b H' s' I' qt qf => ?_))
  refine wpAny_truthy_bool (wpAny_pure ?_)
  cases b with
  | true => exact ⟨.bl true, H', I', rfl, qt rfl⟩
  | false => exact ⟨.bl false, H', I', rfl, qf rfl⟩
theorem op_notInO (F : FnOk X.prog X.w X.K X.mg X.base CX0 k f fd [x1, x2] sp) (hr : Room (k + 1) X.A) (hb : Binds X.K fd [x1, x2] []) (d : Dun X.K C "__eq__" f) (no : OwnNo X.K C) : OpR X (compareOp .NotIn) (rInO X.K C sp true) := by
  intro pins s σ H x y v u Q I rx ry h
  obtain ⟨a, p, xs, P, rfl, rfl, hs, hP, run⟩ := h
  cases rx
  cases ry
  obtain ⟨its, r, pl, hz⟩ := I.list hs
  obtain ⟨o, ho, hc, n, hd⟩ := pl.isList
  show wpAny _ X.A (do return Value.bool (!(← contains (.ref p) (.ref a))) : Sem Value) _ _ s
  refine wpAny_bind (wpAny_contains_slot ⟨o, ho, hc⟩ PySem.F.slot_list_contains (contains_O F hr hb d no run I hP hs fun b H' s' I' qt qf => ?_))
  refine wpAny_truthy_bool (wpAny_pure ?_)
  cases b with
  | true => exact ⟨.bl false, H', I', rfl, qt rfl⟩
  | false => exact ⟨.bl true, H', I', rfl, qf rfl⟩
end
end Ow
set_option Elab.async false
set_option linter.all false
set_option maxRecDepth 100000
set_option maxHeartbeats 8000000
namespace Pg
open PySem PySem.Spec PyProof.Rows L2 Gd Rl Te Nu TL Ow
/-! ### __eq__ -/
abbrev sEqM : Stmt := inClass sCls 9
/-- what isinstance asks of the class -/
structure KinP (K : PySem.W.Frag) (C : Addr) : Prop where
  ha : PySem.W.findIn K (.ref C) "__class__" = some (some (.builtin "object.__class__"))
  hn : PySem.W.specialIn K (.builtin "object.__class__") "__get__" = some (some (.builtin "getset_descriptor.__get__"))
  ht : PySem.W.takesIn K (.builtin "object.__class__") = some true
  hm : PySem.W.mroIn K C (.type "object") = some true
  own : PySem.W.kitOne K (.ref C) (.ref C) = some true
def KinN (K : PySem.W.Frag) (C : Addr) : Prop := ∀ T ∈ noTy, PySem.W.kitOne K (.type T) (.ref C) = some false
theorem dat_ty {K : PySem.W.Frag} {H : Hp} {x : V} (D : DatV K H x) : ∃ T ∈ noTy, TyX K H x (.type T) := by
  cases D with
  | non => exact ⟨_, by decide, .base .non⟩
  | bl b => exact ⟨"bool", by decide, .base (.bl b)⟩
  | int i => exact ⟨"int", by decide, .base (.int i)⟩
  | str z => exact ⟨"str", by decide, .base (.str z)⟩
  | lst h => exact ⟨"list", by decide, sql_ty h⟩
  | tup h => exact ⟨"tuple", by decide, sqt_ty h⟩
  | dk h => exact ⟨"dict", by decide, .base (.dK h)⟩
section
variable {P : Program} {w : World} {K : PySem.W.Frag} {mg : Str → Option Value} {base : Heap} {f C : Addr} {fd : FuncData}
def spEqM (K : PySem.W.Frag) (C : Addr) : Sp := fun vs H Q _ => ∃ (a : Addr) (y : V) (ns : List Str) (ss : List (Str × List Int)) (as : List Arm), vs = [.ref a, y] ∧ ProgAt K C H a ns ss as ∧
  ((∃ (b : Addr) (ns' : List Str) (ss' : List (Str × List Int)) (as' : List Arm), y = .ref b ∧ ProgAt K C H b ns' ss' as' ∧ Q (.bl (decide (V.str (textS ns ss as) = V.str (textS ns' ss' as')))) H) ∨ (DatV K H y ∧ Q (.bl false) H))
theorem sc_eq : FnScope ["self", "other"] ["self", "other"] (defScope sEqM) := ⟨rfl, rfl, rfl, by decide +kernel, rfl, by decide +kernel, by decide +kernel⟩
theorem ok_eqM (F : FunP K "__eq__" "Program.__eq__" sEqM f fd) (T : Mo mg) (X : Txt K mg C) (N : KinP K C) (NN : KinN K C) : FnOk P w K mg base CX0 1 f fd ["self", "other"] (spEqM K C) := by
  refine F.ok sc_eq (fun vs H Q E h => ?_) (fun cdv A outer s H vs Q E hr h => ?_)
  · obtain ⟨a, y, ns, ss, as, rfl, _⟩ := h
    rfl
  · obtain ⟨a, y, ns, ss, as, rfl, ⟨dx, a1, b1, c1, d1, hp, _⟩, h⟩ := h
    refine ⟨_, PSs.nox <| pss_one (ps_ret (pe_and (pe_callB call_isi (by rfl) T.isi boot_isinstance (pa_cons (pv 1) (pa_cons (pe_glob (v := .ref C) (by rfl) X.g rfl) pa_nil)))
      (pe_one (pe_cmpR op_eq (pe_fld (pv 0) rfl) (pe_fld (pv 1) rfl) (nomark _))))), ?_⟩
    rcases h with ⟨b, ns', ss', as', rfl, ⟨dx', a2, b2, c2, d2, hp2, _⟩, k⟩ | ⟨D, k⟩
    · exact ⟨_, rfl, .ref b, .ref C, .ref C, .ref C, true, rfl, .own C, .base (.ins hp2 X.cl N.ha N.hn N.ht N.hm), N.own, _, rfl, _, rfl, a, C, dx, _, _, rfl, hp, X.cl, X.t, pf_t _ _ _ _ _, _, rfl, b, C, dx', _, _, rfl, hp2, X.cl, X.t, pf_t _ _ _ _ _, rfl, k⟩
    · obtain ⟨T', hT, ty⟩ := dat_ty D
      exact ⟨_, rfl, y, .ref C, _, .ref C, false, rfl, .own C, ty, NN T' hT, _, rfl, k⟩
end
end Pg
set_option Elab.async false
set_option linter.all false
set_option maxRecDepth 100000
set_option maxHeartbeats 8000000
namespace K5
open PySem PySem.Spec PyProof.Rows L2 Gd Rl Ow Nu TL Sz
open Pg (top FnP Mo FunP fD sayD saysD armD armsD namesD Arm ArmOk OkP OkN OkS OkA ProgAt Defs Mkr textS spGet sGn sGb sGt sLen sEqM spEqM KinP KinN spIni spRd spLl sIni nolD)
abbrev sRight : Stmt := top 50
structure Bl2 (mg : Str → Option Value) : Prop where
  repr : mg "repr" = none
def AllP (K : PySem.W.Frag) (C : Addr) (H : Hp) (xs : List V) : Prop := ∀ x ∈ xs, ∃ (a : Addr) (ns : List Str) (ss : List (Str × List Int)) (as : List Arm), x = .ref a ∧ OkP ns ss as ∧ ProgAt K C H a ns ss as
theorem prog_nl {K : PySem.W.Frag} {C : Addr} {H H' : Hp} {x : Addr} {ns : List Str} {ss : List (Str × List Int)} {as : List Arm} (s : Nl H H') (g : ProgAt K C H x ns ss as) : ProgAt K C H' x ns ss as := by
  obtain ⟨dx, a, b, c, d, h1, h2, h3, h4, h5⟩ := g
  exact ⟨dx, a, b, c, d, s _ _ h1 (fun _ q => nomatch q), dp_nl s _ (nol_n ns) h2, dp_nl s _ (Pg.nol_says ss) h3, dp_nl s _ (nol_a as) h4, seqT_nl s h5⟩
theorem AllP.nl {K : PySem.W.Frag} {C : Addr} {H H' : Hp} {xs : List V} (s : Nl H H') (g : AllP K C H xs) : AllP K C H' xs := fun x hx => by
  obtain ⟨a, ns, ss, as, e, ok, h⟩ := g x hx
  exact ⟨a, ns, ss, as, e, ok, prog_nl s h⟩
theorem same_to {p : Addr} {H : Hp} : Same (delH H p) H := fun a o e => by
  by_cases h : a = p
  · rw [h, delH_same] at e
    cases e
  · rw [delH_ne h] at e
    exact e
theorem dat_same {K : PySem.W.Frag} {H H' : Hp} (s : Same H H') {v : V} (h : DatV K H v) : DatV K H' v := by
  cases h with
  | non => exact .non
  | bl b => exact .bl b
  | int i => exact .int i
  | str z => exact .str z
  | lst h => exact .lst (s.seq h)
  | tup h => exact .tup (Same.seqT s h)
  | dk h => exact .dk (s _ _ h)
theorem dat_rp {K : PySem.W.Frag} {H : Hp} {v : V} {d : PyData} (h : Rp K H v d) : DatV K H v := by
  rcases h with h | ⟨a, kvs, ds, rfl, h1, _, rfl⟩
  · cases h with
    | non => exact .non
    | bl b => exact .bl b
    | int i => exact .int i
    | str z => exact .str z
    | lst h _ => exact .lst h
    | tup h _ => exact .tup h
  · exact .dk h1
/-- what stands through the law's loops -/
structure Kept (K : PySem.W.Frag) (C L r : Addr) (xs : List V) (x0 : Addr) (u v z : V) (ns : List Str) (ss : List (Str × List Int)) (as : List Arm) (H : Hp) : Prop where
  l : H L = some (.lst xs)
  a : AllP K C H xs
  x : xs[0]? = some (.ref x0)
  g : ProgAt K C H x0 ns ss as
  r : H r = some (.lst [u, v, z])
  u : Dp K H u (namesD ns)
  v : Dp K H v (saysD ss)
  z : Dp K H z (armsD as)
theorem Kept.but {K : PySem.W.Frag} {C L r : Addr} {xs : List V} {x0 : Addr} {u v z : V} {ns : List Str} {ss : List (Str × List Int)} {as : List Arm} {H H' : Hp} {p : Addr} (h : Kept K C L r xs x0 u v z ns ss as H) (b : But p H H') (hp : Pail H p) (hL : L ≠ p) (hr : r ≠ p) : Kept K C L r xs x0 u v z ns ss as H' :=
  have nl := b.nl hp
  ⟨b _ _ h.l hL, h.a.nl nl, h.x, prog_nl nl h.g, b _ _ h.r hr, dp_nl nl _ (nol_n ns) h.u, dp_nl nl _ (Pg.nol_says ss) h.v, dp_nl nl _ (nol_a as) h.z⟩
theorem nf_own {K : PySem.W.Frag} {C : Addr} : PySem.W.notFirst K C (.ref C) = true := by
  unfold PySem.W.notFirst
  simp
def NotF (K : PySem.W.Frag) (C : Addr) : Prop := ∀ T ∈ noTy, PySem.W.notFirst K C (.type T) = true
theorem sh_bb (b c : Bool) : Sh (.list [.bool b, .bool c]) 16 2 := by
  cases b <;> cases c <;> exact ⟨by decide +kernel, by decide +kernel, by decide +kernel⟩
section
variable {K : PySem.W.Frag} {C : Addr} {H : Hp}
theorem prog_ty {mg : Str → Option Value} {a : Addr} {ns : List Str} {ss : List (Str × List Int)} {as : List Arm} (X : Pg.Txt K mg C) (N : KinP K C) (g : ProgAt K C H a ns ss as) : TyX K H (.ref a) (.ref C) := by
  obtain ⟨dx, _, _, _, _, hx, _⟩ := g
  exact .base (.ins hx X.cl N.ha N.hn N.ht N.hm)
/-- programs: one of them among them -/
theorem in_run {mg : Str → Option Value} {p a i : Addr} {xs : List V} {ns : List Str} {ss : List (Str × List Int)} {as : List Arm} {Qt Qf : Hp → Prop} (X : Pg.Txt K mg C) (N : KinP K C) (hL : H p = some (.lst xs)) (all : AllP K C H xs) (hi : xs[i]? = some (.ref a)) (g : ProgAt K C H a ns ss as) (cont : Qt H) : InRun K C (spEqM K C) p xs a (fun j H' => H' = H ∧ j ≤ i) Qt Qf := by
  refine ⟨fun j H' y ey ⟨eH, hj⟩ => ?_, fun H' ⟨eH, hj⟩ => ?_⟩
  · subst eH
    refine ⟨SqL.of hL, ?_⟩
    by_cases e : y = .ref a
    · exact .inl ⟨e, cont⟩
    · refine .inr ⟨fun q => absurd q e, .inl ?_⟩
      obtain ⟨b, ns', ss', as', rfl, _, g'⟩ := all y (List.mem_of_getElem? ey)
      obtain ⟨dx, _, _, _, _, hx, _⟩ := id g'
      refine ⟨b, dx, _, .ref C, rfl, hx, prog_ty X N g, nf_own, b, .ref a, ns', ss', as', rfl, g', .inl ⟨a, ns, ss, as, rfl, g, _, rfl, (fun _ => cont), fun _ => ⟨rfl, ?_⟩⟩⟩
      rcases Nat.lt_or_ge j i with h | h
      · exact h
      · have : j = i := by omega
        subst this
        rw [hi] at ey
        exact absurd (Option.some.inj ey).symm e
  · obtain ⟨hlt, _⟩ := List.getElem?_eq_some_iff.mp hi
    omega
/-- data: none of it is a program -/
theorem in_dat {p a : Addr} {xs : List V} {ns : List Str} {ss : List (Str × List Int)} {as : List Arm} {Qt Qf : Hp → Prop} (hL : H p = some (.lst xs)) (all : ∀ x ∈ xs, DatV K H x) (g : ProgAt K C H a ns ss as) (cont : Qf H) : InRun K C (spEqM K C) p xs a (fun j H' => H' = H) Qt Qf := by
  obtain ⟨dx, _, _, _, _, hx, _⟩ := id g
  refine ⟨fun j H' y ey eH => ?_, fun H' eH => ?_⟩
  · subst eH
    have D := all y (List.mem_of_getElem? ey)
    exact ⟨SqL.of hL, .inr ⟨fun _ => ⟨dx, _, hx, D⟩, .inr ⟨a, dx, _, rfl, hx, D, a, y, ns, ss, as, rfl, g, .inr ⟨D, false, rfl, (fun q => by cases q), fun _ => rfl⟩⟩⟩⟩
  · subst eH
    exact ⟨SqL.of hL, cont⟩
end
abbrev nRight : List Str := ["_law_pail", "_law_parts_here", "_law_made", "_law_turn", "_law_near_here", "_law_far", "_law_same", "_law_value"]
theorem scRight : FnScope nRight ["_law_pail"] (defScope sRight) := ⟨rfl, rfl, rfl, by decide +kernel, rfl, by decide +kernel, by decide +kernel⟩
def spRight : Sp := fun vs H Q _ => ∃ p, vs = [.ref p] ∧ Pail H p ∧ ∀ H', But p H H' → Q (.bl true) H'
/-- where the law's defs stand -/
structure Df (K : PySem.W.Frag) (mg : Str → Option Value) (fP fB fN fH : Addr) (dP dB dN dH : FuncData) : Prop where
  p : FnP K "_law_parts" sParts fP dP
  b : FnP K "_law_built" sBuilt fB dB
  n : FnP K "_law_near" sNear fN dN
  h : FnP K "_law_thing" sThing fH dH
  gp : mg "_law_parts" = some (.ref fP)
  gb : mg "_law_built" = some (.ref fB)
  gn : mg "_law_near" = some (.ref fN)
  gh : mg "_law_thing" = some (.ref fH)
/-- what is asked of the class -/
structure Asks (K : PySem.W.Frag) (C : Addr) (p1 p3 p5 g1 g3 g5 fE fL : Addr) (d1 d3 d5 dE dL : FuncData) : Prop where
  n : PropOf K C "names" p1 g1
  b : PropOf K C "branches" p3 g3
  t : PropOf K C "text" p5 g5
  fn : FunP K "names" "Program.names" Pg.sGn g1 d1
  fb : FunP K "branches" "Program.branches" Pg.sGb g3 d3
  ft : FunP K "text" "Program.text" Pg.sGt g5 d5
  fe : FunP K "__eq__" "Program.__eq__" sEqM fE dE
  fl : FunP K "__len__" "Program.__len__" sLen fL dL
  de : Dun K C "__eq__" fE
  dl : Dun K C "__len__" fL
  dn : DunNe K C
  no : OwnNo K C
  ki : KinP K C
  kn : KinN K C
  nf : NotF K C
section
variable {P : Program} {w : World} {K : PySem.W.Frag} {mg : Str → Option Value} {base : Heap} {f C : Addr} {fd : FuncData}
variable {fI fN fF fS fU fCN fCS fCB fY fB fP fX fW fA fO : Addr} {dI dN dF dS dU dCN dCS dCB dY dB dP dX dW dA dO : FuncData}
theorem ok_right {cC cA cT cW cF fIni fStr mcp fRd fLw fLa fLl fLs p1 p3 p5 g1 g3 g5 fE fL qP qB qN qH : Addr} {mc : Value} {eC eA eT eW eF dIni dStr dRd dLw dLa dLl dLs d1 d3 d5 dE dL eP eB eN eH : FuncData} (F : FnP K "_law_right" sRight f fd) (T : Bl mg) (R : RangeB mg) (U : Bl2 mg) (M0 : Mo mg) (G : Dr K mg cC cA cT cW cF eC eA eT eW eF)
    (X : Pg.Txt K mg C) (D : Defs K mg fI fN fF fS fU fCN fCS fCB fY fB fP fX fW fA fO dI dN dF dS dU dCN dCS dCB dY dB dP dX dW dA dO) (M : Mkr K C fIni fStr dIni dStr) (Z : Rdr K C mcp fRd mc dRd) (L : Tx K mg fLw fLa fLl fLs dLw dLa dLl dLs) (A0 : Asks K C p1 p3 p5 g1 g3 g5 fE fL d1 d3 d5 dE dL) (B : Df K mg qP qB qN qH eP eB eN eH) : FnG P w K mg base 11 f fd ["_law_pail"] spRight := by
  have GP : FnOk P w K mg base CX0 5 qP eP ["_law_pail"] (spParts K) := ok_parts B.p T R G
  have bP : Binds K eP ["_law_pail"] [] := B.p.bindsN fun _ _ _ _ _ _ us hl => match us, hl with | [_], _ => rfl
  have GB : FnOk P w K mg base CX0 10 qB eB ["_law_pail", "_law_parts_here"] (spBuilt K C) := ok_built B.b T M0 G.c G.gc X D M Z L
  have bB : Binds K eB ["_law_pail", "_law_parts_here"] [] := B.b.bindsN fun _ _ _ _ _ _ us hl => match us, hl with | [_, _], _ => rfl
  have GN : FnOk P w K mg base CX0 2 qN eN ["_law_pail", "_law_parts_here"] (spNear K) := ok_near B.n T G.c G.gc
  have bN : Binds K eN ["_law_pail", "_law_parts_here"] [] := B.n.bindsN fun _ _ _ _ _ _ us hl => match us, hl with | [_, _], _ => rfl
  have GH : FnOk P w K mg base CX0 3 qH eH ["_law_pail"] (spThing K) := ok_thing B.h T G.a G.ga G.c G.gc
  have bH : Binds K eH ["_law_pail"] [] := B.h.bindsN fun _ _ _ _ _ _ us hl => match us, hl with | [_], _ => rfl
  have GI : FnOk P w K mg base CX0 7 fIni dIni ["self", "names", "sayings", "branches"] (spIni K C) := Pg.ok_ini M.i M0 X D
  have bI : Binds K dIni ["self", "names", "sayings", "branches"] [] := M.i.bindsN fun _ _ _ _ _ _ us hl => match us, hl with | [_, _, _, _], _ => rfl
  have GR : FnOk P w K mg base CX0 9 fRd dRd ["cls", "text"] (spRd K C) := Pg.ok_rd Z.f M0 X D M
  have bR : Binds K dRd ["cls", "text"] [] := Z.f.bindsN fun _ _ _ _ _ _ us hl => match us, hl with | [_, _], _ => rfl
  have GS : FnOk P w K mg base CX0 4 fLs dLs ["_law_parts_here"] (spLl K fun ns ss as y _ => y = .str (textS ns ss as)) := Pg.ok_ls L.s M0 L.w L.gw L.a L.ga L.l L.gl
  have bS : Binds K dLs ["_law_parts_here"] [] := L.s.bindsN fun _ _ _ _ _ _ us hl => match us, hl with | [_], _ => rfl
  have H1 : FnOk P w K mg base CX0 1 g1 d1 ["self"] (spGet K C fun ns ss as v H => Dp K H v (namesD ns)) := Pg.ok_gnames A0.fn X
  have b1 : Binds K d1 ["self"] [] := A0.fn.bindsN fun _ _ _ _ _ _ us hl => match us, hl with | [_], _ => rfl
  have H3 : FnOk P w K mg base CX0 1 g3 d3 ["self"] (spGet K C fun ns ss as v H => Dp K H v (armsD as)) := Pg.ok_gbranches A0.fb X
  have b3 : Binds K d3 ["self"] [] := A0.fb.bindsN fun _ _ _ _ _ _ us hl => match us, hl with | [_], _ => rfl
  have H5 : FnOk P w K mg base CX0 1 g5 d5 ["self"] (spGet K C fun ns ss as v H => v = .str (textS ns ss as)) := Pg.ok_gtext A0.ft X
  have b5 : Binds K d5 ["self"] [] := A0.ft.bindsN fun _ _ _ _ _ _ us hl => match us, hl with | [_], _ => rfl
  have HL : FnOk P w K mg base CX0 1 fL dL ["self"] (spGet K C fun ns ss as v _ => v = .int as.length) := Pg.ok_len A0.fl M0 X
  have bL : Binds K dL ["self"] [] := A0.fl.bindsN fun _ _ _ _ _ _ us hl => match us, hl with | [_], _ => rfl
  have GE : FnOk P w K mg base CX0 1 fE dE ["self", "other"] (spEqM K C) := Pg.ok_eqM A0.fe M0 X A0.ki A0.kn
  have bE : Binds K dE ["self", "other"] [] := A0.fe.bindsN fun _ _ _ _ _ _ us hl => match us, hl with | [_, _], _ => rfl
  refine okG F scRight (fun vs H Q E h => ?_) (fun cdv A outer s H vs Q E hgd hr h => ?_)
  · obtain ⟨p, rfl, _⟩ := h
    rfl
  · obtain ⟨p, rfl, hp, k⟩ := h
    have hr1 := hr.mono (show 1 ≤ 10 by decide)
    have hr2 := hr.mono (show 1 + 1 ≤ 10 by decide)
    have hr3 := hr.mono (show 3 ≤ 10 by decide)
    have hr4 := hr.mono (show 4 ≤ 10 by decide)
    have hr5 := hr.mono (show 5 ≤ 10 by decide)
    have hr8 := hr.mono (show 7 + 1 ≤ 10 by decide)
    have hr9 := hr.mono (show 9 ≤ 10 by decide)
    refine ⟨_, PSs.nox <| pss_cons (ps_set (i := 1) scRight.nd rfl (.inl rfl) (pe_call GP hr5 (by rfl) B.gp B.p.kp bP .nil pass0 (pa_cons (pv 0) pa_nil)))
      <| pss_cons (ps_set (i := 2) scRight.nd rfl (.inl rfl) (pe_lstR (pa_cons (pe_make M.m GI hr8 (by rfl) X.g bI .nil pass0 (pa_cons (pe_ix (r := rIxL K) ix_list (pv 1) pe_int (fun _ _ => rfl)) (pa_cons (pe_ix (r := rIxL K) ix_list (pv 1) pe_int (fun _ _ => rfl)) (pa_cons (pe_ix (r := rIxL K) ix_list (pv 1) pe_int (fun _ _ => rfl)) pa_nil))))
          (pa_cons (ClX.pe_cmeth (pe_glob (v := .ref C) (by rfl) X.g rfl) Z.r Z.m (GR.raw bR .nil) hr9 pass0 (pa_cons (pe_call GS hr4 (by rfl) L.gs L.s.kp bS .nil pass0 (pa_cons (pv 1) pa_nil)) pa_nil)) pa_nil))))
      <| pss_cons (ps_for PassesOwn.never rfl (pi_range1 (by rfl) R.range (pa_cons pe_int pa_nil)) (pg_name (i := 3) scRight.nd rfl (.inl rfl))
          (pss_one (ps_expr (pe_bm PySem.F.plainAttrs_list PySem.F.slot_list_append PySem.F.type_list_append mt_append (pv 2) (pa_cons (pe_call GB hr (by rfl) B.gb B.b.kp bB .nil pass0 (pa_cons (pv 0) (pa_cons (pe_call GN hr2 (by rfl) B.gn B.n.kp bN .nil pass0 (pa_cons (pv 0) (pa_cons (pv 1) pa_nil))) pa_nil))) pa_nil)))))
      <| pss_cons (ps_for PassesOwn.never rfl (pi_list (pv 2)) (pg_name (i := 4) scRight.nd rfl (.inl rfl))
          (pss_cons (ps_for PassesOwn.never rfl (pi_list (pv 2)) (pg_name (i := 5) scRight.nd rfl (.inl rfl))
              (pss_cons (ps_set (i := 6) scRight.nd rfl (.inl rfl) (pe_cmpR op_eq (pe_prop (pv 4) X.cl A0.t H5 hr2 b5 .nil pass0 (by rfl)) (pe_prop (pv 5) X.cl A0.t H5 hr2 b5 .nil pass0 (by rfl)) (nomark _)))
              <| pss_one (ps_if (pt_cmpR op_ne (pe_callB (call_repr hgd hr.units) (by rfl) U.repr boot_repr (pa_cons (pe_lstR (pa_cons (pe_cmpR (op_eqO GE hr1 bE A0.de) (pv 4) (pv 5) (nomark _)) (pa_cons (pe_cmpR (op_neO GE hr2 bE A0.de A0.dn) (pv 4) (pv 5) (nomark _)) pa_nil))) pa_nil))
                  (pe_callB (call_repr hgd hr.units) (by rfl) U.repr boot_repr (pa_cons (pe_lstR (pa_cons (pv 6) (pa_cons (pe_not (pv 6)) pa_nil))) pa_nil)) (nomark _)) (pss_one (ps_ret pe_bl)) pss_nil)))
          <| pss_cons (ps_for PassesOwn.never rfl (pi_list (pe_lstR <| pa_cons pe_non <| pa_cons (pe_prop (pv 4) X.cl A0.t H5 hr2 b5 .nil pass0 (by rfl)) <| pa_cons (pe_prop (pv 4) X.cl A0.b H3 hr2 b3 .nil pass0 (by rfl)) <| pa_cons (pe_callB (call_lenO HL hr2 bL A0.dl) (by rfl) M0.len PySem.boot_len (pa_cons (pv 4) pa_nil))
              <| pa_cons (pe_lstR (pa_cons (pe_prop (pv 4) X.cl A0.t H5 hr2 b5 .nil pass0 (by rfl)) pa_nil)) <| pa_cons (pe_call GH hr3 (by rfl) B.gh B.h.kp bH .nil pass0 (pa_cons (pv 0) pa_nil)) <| pa_cons (pe_tupR (pa_cons (pv 4) pa_nil)) <| pa_cons (pe_lstR (pa_cons (pv 4) pa_nil)) pa_nil)) (pg_name (i := 7) scRight.nd rfl (.inl rfl))
              (pss_one (ps_if (PW.pt (pw_or (pt_cmpR (op_eqO GE hr1 bE A0.de) (pv 4) (pv 7) (nomark _)) (pw_or (pt_not (pt_cmpR (op_neO GE hr2 bE A0.de A0.dn) (pv 4) (pv 7) (nomark _))) (pw_or1 (pt_cmpR (op_eqDO GE hr1 bE A0.de A0.no) (pv 7) (pv 4) (nomark _)))))) (pss_one (ps_ret pe_bl)) pss_nil)))
          <| pss_one (ps_if (PW.pt (pw_or (pt_cmpR (op_notInO GE hr2 bE A0.de A0.no) (pv 4) (pv 2) (by rfl)) (pw_or1 (pt_cmpR (op_inO GE hr2 bE A0.de A0.no) (pv 4) (pe_lstR (pa_cons (pe_prop (pv 4) X.cl A0.t H5 hr2 b5 .nil pass0 (by rfl)) (pa_cons (pe_prop (pv 4) X.cl A0.n H1 hr2 b1 .nil pass0 (by rfl)) pa_nil))) (by rfl))))) (pss_one (ps_ret pe_bl)) pss_nil)))
      <| pss_one (ps_ret (pe_cmpR op_eq (pe_prop (pe_ix (r := rIxL K) ix_list (pv 2) pe_int (fun _ _ => rfl)) X.cl A0.t H5 hr2 b5 .nil pass0 (by rfl)) (pe_call GS hr4 (by rfl) L.gs L.s.kp bS .nil pass0 (pa_cons (pv 1) pa_nil)) (nomark _))), ?_⟩
    refine ⟨_, rfl, p, rfl, hp, fun r u v z ns ss as H9 okp nr er hu hv hz hp9 b9 => ?_⟩
    have rp : r ≠ p := (hp.ne nr).symm
    -- the first two
    refine ⟨_, rfl, r, _, 0, _, rfl, rfl, SqL.of er, rfl, _, rfl, r, _, 1, _, rfl, rfl, SqL.of er, rfl, _, rfl, r, _, 2, _, rfl, rfl, SqL.of er, rfl, fun x0 dx nx ndx nex => ?_⟩
    have s10 : Same H9 (upd (upd H9 dx (.own x0)) x0 (.ins C dx [])) := fun q o e => by
      rw [upd_ne (ne_of_none e nx), upd_ne (ne_of_none e ndx)]
      exact e
    refine ⟨H9, x0, dx, u, v, z, ns, ss, as, rfl, s10, nx, upd_same, hu, hv, hz, okp, fun H11 s11 g0 => ⟨rfl, ?_⟩⟩
    refine ⟨rfl, _, rfl, r, u, v, z, _, ns, ss, as, rfl, s11 _ _ er, dp_same s11 _ hu, dp_same s11 _ hv, dp_same s11 _ hz, okp.t, fun y H12 s12 ey => ?_⟩
    subst ey
    refine ⟨ns, ss, as, rfl, okp, fun x1 H13 s13 g1' => ⟨(show 2 ≤ 1000 by decide), fun L1 H14 n14 => ?_⟩⟩
    have s914 : Same H9 H14 := s11.trans (s12.trans (s13.trans n14.2.2))
    have hp14 := hp9.same s914
    have Lp : L1 ≠ p := (((hp9.same s11).same (s12.trans s13)).ne n14.1).symm
    have rL : r ≠ L1 := ne_of_none ((s11.trans (s12.trans s13)) _ _ er) n14.1
    have kept : Kept K C L1 r [.ref x0, .ref x1] x0 u v z ns ss as H14 := by
      refine ⟨n14.2.1, fun x hx => ?_, rfl, g0.same (s12.trans (s13.trans n14.2.2)), s914 _ _ er, dp_same s914 _ hu, dp_same s914 _ hv, dp_same s914 _ hz⟩
      simp only [List.mem_cons, List.not_mem_nil, or_false] at hx
      rcases hx with rfl | rfl
      · exact ⟨x0, ns, ss, as, rfl, okp, g0.same (s12.trans (s13.trans n14.2.2))⟩
      · exact ⟨x1, ns, ss, as, rfl, okp, g1'.same n14.2.2⟩
    have nL : H L1 = none := by
      cases e : H L1 with
      | none => rfl
      | some q =>
        have := (s11.trans (s12.trans s13)) _ _ (b9 _ _ e Lp)
        rw [n14.1] at this
        cases this
    have b14 : But p H H14 := b9.trans (but_same s914)
    clear s11 s12 s13 g0 g1' s10 hu hv hz er hp9 b9 s914 n14 nx ndx nex
    refine ⟨7, rfl, by decide, by decide, for_range (lo := 0) (n := 7) (fun i σ H' => ∃ (xs : List V) (y3 : Option V), σ = [some (.ref p), some (.ref r), some (.ref L1), y3, none, none, none, none] ∧ xs.length = 2 + i ∧ Kept K C L1 r xs x0 u v z ns ss as H' ∧ Pail H' p ∧ But p H H') ⟨_, _, rfl, rfl, kept, hp14, b14⟩ ?_ ?_⟩
    · rintro i σ H2 hi ⟨xs, y3, rfl, lx, kp, hp2, b2⟩
      have hi7 : i < 7 := by omega
      refine ⟨_, rfl, .inl ⟨rfl, _, SqL.of kp.l⟩, _, rfl, _, rfl, _, rfl, p, r, u, v, z, ns, ss, as, rfl, rp, hp2, kp.r, kp.u, kp.v, kp.z, okp, fun r' u' v' z' ns' ss' as' H3 rp' ok' er' hu' hv' hz' hp3 b3 => ?_⟩
      refine ⟨p, r', u', v', z', ns', ss', as', rfl, rp', hp3, er', hu', hv', hz', ok', fun x H4 hp4 b4 g => ?_⟩
      have b24 := b3.trans b4
      have kp4 := kp.but b24 hp2 Lp rp
      refine ⟨L1, _, _, rfl, rfl, kp4.l, small1000 (by omega), ?_⟩
      have nl : Nl H4 (upd H4 L1 (.lst (xs ++ [.ref x]))) := nl_upd kp4.l
      refine ⟨xs ++ [.ref x], _, rfl, by rw [List.length_append, lx]; rfl, ⟨upd_same, fun y hy => ?_, ?_, prog_nl nl kp4.g, (upd_ne rL).trans kp4.r, dp_nl nl _ (nol_n ns) kp4.u, dp_nl nl _ (Pg.nol_says ss) kp4.v, dp_nl nl _ (nol_a as) kp4.z⟩, hp4.upd (fun e => Lp e.symm), fun b q e nb => ?_⟩
      · rcases List.mem_append.mp hy with hy | hy
        · exact (kp4.a.nl nl) y hy
        · rw [List.mem_singleton.mp hy]
          exact ⟨x, ns', ss', as', rfl, ok', prog_nl nl g⟩
      · rw [List.getElem?_append_left (by omega)]
        exact kp4.x
      · rw [upd_ne (ne_of_none e nL)]
        exact b24 b q (b2 b q e nb) nb
    · rintro σ H2 ⟨xs, y3, rfl, lx, kp, hp2, b2⟩
      clear kept hp14 b14
      have lx9 : xs.length = 9 := lx
      refine ⟨_, rfl, L1, rfl, ⟨_, SqL.of kp.l⟩, for_list (xs := xs) (fun i σ H' => ∃ y3 y4 y5 y6 y7 : Option V, σ = [some (.ref p), some (.ref r), some (.ref L1), y3, y4, y5, y6, y7] ∧ Kept K C L1 r xs x0 u v z ns ss as H' ∧ Pail H' p ∧ But p H H') ⟨_, _, _, _, _, rfl, kp, hp2, b2⟩ (fun i σ H' _ ⟨_, _, _, _, _, _, kp', _⟩ => SqL.of kp'.l) ?_ ?_⟩
      · rintro i xi σ H3 exi ⟨y3, y4, y5, y6, y7, rfl, kp3, hp3, b3'⟩
        obtain ⟨a, na, sa, aa, rfl, oka, ga⟩ := kp3.a xi (List.mem_of_getElem? exi)
        -- each beside each
        refine ⟨_, rfl, L1, rfl, ⟨_, SqL.of kp3.l⟩, for_list (xs := xs) (fun j σ H' => ∃ y3 y5 y6 y7 : Option V, σ = [some (.ref p), some (.ref r), some (.ref L1), y3, some (.ref a), y5, y6, y7] ∧ Kept K C L1 r xs x0 u v z ns ss as H' ∧ ProgAt K C H' a na sa aa ∧ Pail H' p ∧ But p H H') ⟨_, _, _, _, rfl, kp3, ga, hp3, b3'⟩ (fun i σ H' _ ⟨_, _, _, _, _, kp', _⟩ => SqL.of kp'.l) ?_ ?_⟩
        · rintro j xj σ H4 exj ⟨y3, y5, y6, y7, rfl, kp4, ga4, hp4, b4'⟩
          obtain ⟨b, nb, sb, ab, rfl, okb, gb⟩ := kp4.a xj (List.mem_of_getElem? exj)
          obtain ⟨dxa, _, _, _, _, hxa, _⟩ := id ga4
          obtain ⟨dxb, _, _, _, _, hxb, _⟩ := id gb
          refine ⟨_, rfl, a, dxa, _, rfl, hxa, a, na, sa, aa, rfl, ga4, oka, fun v1 e1 => ⟨_, rfl, b, dxb, _, rfl, hxb, b, nb, sb, ab, rfl, gb, okb, fun v2 e2 => ?_⟩⟩
          subst e1 e2
          refine ⟨rfl, ?_⟩
          have tyb := prog_ty X A0.ki gb
          refine ⟨_, rfl, _, rfl, a, dxa, _, .ref C, rfl, hxa, tyb, nf_own, a, .ref b, na, sa, aa, rfl, ga4, .inl ⟨b, nb, sb, ab, rfl, gb, _, rfl, _, rfl, a, dxa, _, .ref C, rfl, hxa, tyb, nf_own, a, .ref b, na, sa, aa, rfl, ga4, .inl ⟨b, nb, sb, ab, rfl, gb, _, rfl, (show 2 ≤ 1000 by decide), fun l5 H5' n5 => ?_⟩⟩⟩
          generalize decide (V.str (textS na sa aa) = V.str (textS nb sb ab)) = tb at n5 ⊢
          have shb := sh_bb tb (!tb)
          have d5' : Dp K H5' (.ref l5) (.list [.bool tb, .bool (!tb)]) := .lst (SqL.of n5.2.1) (.cons (.bl _) (.cons (.bl _) .nil))
          refine ⟨_, .list [.bool tb, .bool (!tb)], rfl, .inl d5', shb.sh, Nat.le_trans shb.dp (by decide), sz1000 (Nat.le_trans shb.len (by decide)), _, rfl, _, rfl, _, rfl, (show 2 ≤ 1000 by decide), fun l6 H6 n6 => ?_⟩
          have d6 : Dp K H6 (.ref l6) (.list [.bool tb, .bool (!tb)]) := .lst (SqL.of n6.2.1) (.cons (.bl _) (.cons (.bl _) .nil))
          refine ⟨_, .list [.bool tb, .bool (!tb)], rfl, .inl d6, shb.sh, Nat.le_trans shb.dp (by decide), sz1000 (Nat.le_trans shb.len (by decide)), ?_⟩
          refine ⟨rfl, _, rfl, ?_⟩
          refine iteNS rfl ?_
          have s46 := n5.2.2.trans n6.2.2
          exact ⟨_, _, _, _, rfl, kp4.but (but_same s46) hp4 Lp rp, ga4.same s46, hp4.same s46, b4'.trans (but_same s46)⟩
        · rintro σ H4 ⟨y3, y5, y6, y7, rfl, kp4, ga4, hp4, b4'⟩
          -- beside data
          obtain ⟨dxa, _, _, _, _, hxa, _⟩ := id ga4
          have askT : ∀ {H' : Hp} {W : VK}, ProgAt K C H' a na sa aa → True := fun _ => trivial
          refine ⟨_, rfl, a, dxa, _, rfl, hxa, a, na, sa, aa, rfl, ga4, oka, fun v1 e1 => ⟨_, rfl, a, dxa, _, rfl, hxa, a, na, sa, aa, rfl, ga4, oka, fun v2 e2 => ⟨_, rfl, a, dxa, _, rfl, hxa, a, na, sa, aa, rfl, ga4, oka, fun v3 e3 => ⟨⟨_, e3, by omega, by have := oka.a.five; omega⟩, ?_⟩⟩⟩⟩
          refine ⟨_, rfl, a, dxa, _, rfl, hxa, a, na, sa, aa, rfl, ga4, oka, fun v4 e4 => ⟨(show 1 ≤ 1000 by decide), fun l5 H5' n5 => ⟨_, rfl, p, rfl, hp4.same n5.2.2, fun v6 H6 th6 hp6 b6 => ⟨_, rfl, (show 1 ≤ 1000 by decide), fun t7 H7 n7 => ⟨_, rfl, (show 1 ≤ 1000 by decide), fun l8 H8 n8 => ⟨(show 8 ≤ 1000 by decide), fun l9 H9' n9 => ?_⟩⟩⟩⟩⟩⟩
          have s69 := n7.2.2.trans (n8.2.2.trans n9.2.2)
          have b49 : But p H4 H9' := (but_same n5.2.2).trans (b6.trans (but_same s69))
          have nl49 := b49.nl hp4
          have l5p : l5 ≠ p := (hp4.ne n5.1).symm
          have kp9 := kp4.but b49 hp4 Lp rp
          have ga9 := prog_nl nl49 ga4
          have hp9 := hp6.same s69
          have b9 : But p H H9' := b4'.trans b49
          have all9 : ∀ x ∈ [V.non, v1, v2, v3, .ref l5, v6, .ref t7, .ref l8], DatV K H9' x := fun x hx => by
            simp only [List.mem_cons, List.not_mem_nil, or_false] at hx
            rcases hx with rfl | rfl | rfl | rfl | rfl | rfl | rfl | rfl
            · exact .non
            · rw [e1]
              exact .str _
            · exact dat_rp (.inl (dp_nl nl49 _ (nol_a aa) e2))
            · rw [e3]
              exact .int _
            · exact .lst (SqL.of (s69 _ _ (b6 _ _ n5.2.1 l5p)))
            · obtain ⟨dt, rt, _⟩ := th6
              exact dat_same s69 (dat_same same_to (dat_rp rt))
            · exact .tup (SqT.of (n9.2.2 _ _ (n8.2.2 _ _ n7.2.1)))
            · exact .lst (SqL.of (n9.2.2 _ _ n8.2.1))
          have hl9 := n9.2.1
          clear n5 th6 b6 hp6 n7 n8 n9 s69 b49 nl49 e2 hxa kp4 ga4 hp4 b4'
          obtain ⟨dxa, _, _, _, _, hxa, _⟩ := id ga9
          generalize [V.non, v1, v2, v3, .ref l5, v6, .ref t7, .ref l8] = ys at all9 hl9
          refine ⟨l9, rfl, ⟨_, SqL.of hl9⟩, for_list (xs := ys) (fun j σ H' => ∃ y3 y5 y6 y7 : Option V, σ = [some (.ref p), some (.ref r), some (.ref L1), y3, some (.ref a), y5, y6, y7] ∧ H' = H9') ⟨_, _, _, _, rfl, rfl⟩ (fun i σ H' _ ⟨_, _, _, _, _, e⟩ => by rw [e]; exact SqL.of hl9) ?_ ?_⟩
          · rintro j x σ H' exj ⟨y3, y5, y6, y7, rfl, eH⟩
            subst eH
            have Dx := all9 x (List.mem_of_getElem? exj)
            obtain ⟨T', hT, ty⟩ := Pg.dat_ty Dx
            refine ⟨_, rfl, _, rfl, a, dxa, _, .type T', rfl, hxa, ty, A0.nf T' hT, a, x, na, sa, aa, rfl, ga9, .inr ⟨Dx, _, rfl, ?_⟩⟩
            refine iteF ?_
            refine ⟨_, rfl, _, rfl, a, dxa, _, .type T', rfl, hxa, ty, A0.nf T' hT, a, x, na, sa, aa, rfl, ga9, .inr ⟨Dx, false, rfl, _, rfl, ?_⟩⟩
            refine iteF ?_
            refine ⟨_, rfl, _, rfl, a, dxa, _, rfl, hxa, Dx, a, x, na, sa, aa, rfl, ga9, .inr ⟨Dx, _, rfl, ?_⟩⟩
            refine iteF ?_
            exact ⟨_, _, _, _, rfl, rfl⟩
          · rintro σ H' ⟨y3, y5, y6, y7, rfl, eH⟩
            subst eH
            -- among the programs, not among its own data
            refine ⟨_, rfl, _, rfl, a, L1, xs, (fun j H' => H' = _ ∧ j ≤ i), rfl, rfl, SqL.of kp9.l, ⟨rfl, Nat.zero_le _⟩, in_run (mg := mg) X A0.ki kp9.l kp9.a exi ga9 ⟨_, rfl, iteF ?_⟩⟩
            refine ⟨_, rfl, _, rfl, a, dxa, _, rfl, hxa, a, na, sa, aa, rfl, ga9, oka, fun w1 f1 => ⟨_, rfl, a, dxa, _, rfl, hxa, a, na, sa, aa, rfl, ga9, oka, fun w2 f2 => ⟨(show 2 ≤ 1000 by decide), fun l10 H10 n10 => ?_⟩⟩⟩
            have s10 := n10.2.2
            refine ⟨a, l10, _, (fun j H' => H' = H10), rfl, rfl, SqL.of n10.2.1, rfl, in_dat n10.2.1 (fun x hx => ?_) (ga9.same s10) ⟨_, rfl, iteF ?_⟩⟩
            · simp only [List.mem_cons, List.not_mem_nil, or_false] at hx
              rcases hx with rfl | rfl
              · rw [f1]
                exact .str _
              · exact dat_rp (.inl (dp_same s10 _ f2))
            · exact ⟨_, _, _, _, _, rfl, kp9.but (but_same s10) hp9 Lp rp, hp9.same s10, b9.trans (but_same s10)⟩
      · rintro σ H3 ⟨y3, y4, y5, y6, y7, rfl, kp3, hp3, b3'⟩
        obtain ⟨dx, _, _, _, _, hx, _⟩ := id kp3.g
        refine ⟨_, rfl, L1, _, 0, _, rfl, rfl, SqL.of kp3.l, atI_nat (j := 0) kp3.x, x0, dx, _, rfl, hx, x0, ns, ss, as, rfl, kp3.g, okp, fun v1 e1 => ⟨_, rfl, r, u, v, z, _, ns, ss, as, rfl, kp3.r, kp3.u, kp3.v, kp3.z, okp.t, fun y H4 s4 ey => ?_⟩⟩
        subst e1 ey
        refine ⟨rfl, ?_⟩
        rw [decide_eq_true rfl]
        exact k H4 (b3'.trans (but_same s4))
end
end K5
set_option Elab.async false
set_option linter.all false
set_option maxRecDepth 100000
set_option maxHeartbeats 8000000
namespace Hx
open PySem PySem.Spec PyProof.Rows L2
theorem kinB_ok {K : PySem.W.Frag} {C : Addr} (h : kinB K C = true) : Pg.KinP K C := by
  unfold kinB at h
  obtain ⟨h1, h⟩ := Bool.and_eq_true_iff.mp h
  obtain ⟨h2, h⟩ := Bool.and_eq_true_iff.mp h
  obtain ⟨h3, h⟩ := Bool.and_eq_true_iff.mp h
  obtain ⟨h4, h5⟩ := Bool.and_eq_true_iff.mp h
  exact ⟨He.eqO_ok h1, He.eqO_ok h2, of_decide_eq_true h3, of_decide_eq_true h4, of_decide_eq_true h5⟩
theorem eqsB_ok {K : PySem.W.Frag} {C : Addr} (p : Pg.KinP K C) (h : eqsB K C = true) : Ow.DunNe K C ∧ (Ow.OwnNo K C ∧ (Pg.KinN K C ∧ K5.NotF K C)) := by
  unfold eqsB at h
  obtain ⟨h1, h2⟩ := Bool.and_eq_true_iff.mp h
  have z := List.all_eq_true.mp h2
  refine ⟨⟨He.eqO_ok h1, p.hm⟩, fun T hT => ?_, fun T hT => ?_, fun T hT => ?_⟩
  · exact of_decide_eq_true (Bool.and_eq_true_iff.mp (z T hT)).1
  · exact of_decide_eq_true (Bool.and_eq_true_iff.mp (Bool.and_eq_true_iff.mp (z T hT)).2).1
  · exact (Bool.and_eq_true_iff.mp (Bool.and_eq_true_iff.mp (z T hT)).2).2
end Hx
set_option Elab.async false
set_option linter.all false
set_option maxRecDepth 100000
set_option maxHeartbeats 8000000
namespace K5
open PySem PySem.Spec PyProof.Rows L2 Gd Rl
open Pg (Mo)
abbrev sLaw : Stmt := top 51
structure Bl3 (mg : Str → Option Value) : Prop where
  max : mg "max" = none
  min : mg "min" = none
def spLaw (K : PySem.W.Frag) : Sp := fun vs H Q _ => ∃ (a : Addr) (ns : List Int), vs = [.ref a] ∧ SqL K H a (ns.map V.int) ∧ ns.length ≤ 63 ∧ (∀ z ∈ ns, Builtin.Int.intBits z ≤ 1048576) ∧ ∀ H', Q (.bl true) H'
abbrev nLaw : List Str := ["_law_script", "_law_turn"]
theorem scLaw : FnScope nLaw ["_law_script"] (defScope sLaw) := ⟨rfl, rfl, rfl, by decide +kernel, rfl, by decide +kernel, by decide +kernel⟩
section
variable {P : Program} {w : World} {K : PySem.W.Frag} {mg : Str → Option Value} {base : Heap} {f : Addr} {fd : FuncData}
theorem ok_law {fG fR : Addr} {dG dR : FuncData} (F : FnP K "law" sLaw f fd) (T : Bl mg) (Rg : RangeB mg) (M0 : Mo mg) (U : Bl3 mg)
    (FG : FnP K "_law_begun" sBegun fG dG) (gG : mg "_law_begun" = some (.ref fG)) (FR : FnP K "_law_right" sRight fR dR) (gR : mg "_law_right" = some (.ref fR)) (GR : FnG P w K mg base 11 fR dR ["_law_pail"] spRight) : FnG P w K mg base 12 f fd ["_law_script"] (spLaw K) := by
  have GG : FnOk P w K mg base CX0 1 fG dG ["_law_script", "_law_turn"] (spBegun K) := ok_begun FG T
  have bG : Binds K dG ["_law_script", "_law_turn"] [] := FG.bindsN fun _ _ _ _ _ _ us hl => match us, hl with | [_, _], _ => rfl
  have bR : Binds K dR ["_law_pail"] [] := FR.bindsN fun _ _ _ _ _ _ us hl => match us, hl with | [_], _ => rfl
  refine okG F scLaw (fun vs H Q E h => ?_) (fun cdv A outer s H vs Q E hgd hr h => ?_)
  · obtain ⟨a, ns, rfl, _⟩ := h
    rfl
  · obtain ⟨a, ns, rfl, hS, hn, hb, k1⟩ := h
    have hr1 := hr.mono (show 1 ≤ 11 by decide)
    refine ⟨_, PSs.nox <| pss_one (ps_ret (pe_callB (cr_all rfl) (by rfl) M0.all (by decide +kernel) (pa_cons (pe_lc (own := [("_law_turn", 1)]) (g := gName 1) (tt := tYes) rfl scLaw.nd
          (pi_range1 (by rfl) Rg.range (pa_cons (pe_callB (call_max2 rfl) (by rfl) U.max (by decide +kernel) (pa_cons pe_int (pa_cons (pe_callB (call_min2 rfl) (by rfl) U.min (by decide +kernel) (pa_cons (pe_callB call_len (by rfl) M0.len PySem.boot_len (pa_cons (pv 0) pa_nil)) (pa_cons pe_int pa_nil))) pa_nil))) pa_nil))
          (blkOk_by (N := nLaw) (sc := defScope sLaw) (by decide +kernel)) (fun _ _ _ _ _ => pg_name (i := 1) scLaw.nd rfl (Or.inl rfl)) (fun _ _ _ _ _ => pts_nil)
          (fun _ _ _ _ _ => pe_callG GR hgd hr (by rfl) gR FR.kp bR (pa_cons (pe_call GG hr1 (by rfl) gG FG.kp bG .nil pass0 (pa_cons (pv 0) (pa_cons (pv 1) pa_nil))) pa_nil))) pa_nil))), ?_⟩
    refine ⟨_, rfl, _, (ns.map V.int).length, rfl, .inl ⟨_, hS, rfl⟩, _, _, rfl, _, _, rfl, ?_⟩
    generalize hM : (if (if (5 : Int) < ((ns.map V.int).length : Int) then (5 : Int) else ((ns.map V.int).length : Int)) > 2 then (if (5 : Int) < ((ns.map V.int).length : Int) then (5 : Int) else ((ns.map V.int).length : Int)) else 2) = M
    have m0 : 0 ≤ M ∧ M ≤ 5 := by
      rw [← hM]
      split <;> split <;> omega
    refine ⟨M, rfl, by omega, by omega, fun D hD => lc_range (lo := 0) (n := M.toNat) (fun i H' => Same H H' ∧ H' D = some (.lst (List.replicate i (V.bl true)))) ⟨same_new hD, upd_same⟩ ?_ ?_⟩
    · rintro i H' hi ⟨sx, hd⟩
      refine ⟨rfl, ?_⟩
      refine ⟨_, rfl, _, rfl, a, ns, i, (by rw [Int.zero_add]; rfl), sx.seq hS, hn, hb, by omega, fun p Hp sp np pp => ?_⟩
      refine ⟨p, rfl, pp, fun Hq bt => ?_⟩
      have hd2 : Hq D = some (.lst (List.replicate i (V.bl true))) := bt D _ (sp _ _ hd) (ne_of_none hd np)
      refine ⟨_, hd2, (by rw [List.length_replicate]; exact small1000 (by omega)), fun b u e => ?_, ?_⟩
      · rw [upd_ne (ne_of_none e hD)]
        exact bt b u (sp _ _ (sx _ _ e)) (ne_of_none (sx _ _ e) np)
      · rw [upd_same, List.replicate_succ']
    · rintro H' ⟨sx, hd⟩
      have hd2 : H' D = some (.lst ((List.replicate M.toNat true).map V.bl)) := by
        rw [List.map_replicate]
        exact hd
      refine ⟨D, _, rfl, SqL.of hd2, ?_⟩
      rw [show (List.replicate M.toNat true).all id = true by simp]
      exact k1 H'
end
end K5
set_option Elab.async false
set_option linter.all false
set_option maxRecDepth 100000
set_option maxHeartbeats 0
namespace K5
open PySem PySem.Spec PyProof.Rows L2 Gd Rl
theorem facts {w : World} {K : PySem.W.Frag} {h : Heap} {mg : Str → Option Value} {f : Addr} (X : K.In h) (G : h.Ns mainGlobals mg) (hfa : mg ("law" : Str) = some (.ref f)) (cc : SaysK K) :
    ∃ fd : FuncData, (∀ (s : Shared) (v : Value), BindsTo s fd ⟨[v], []⟩ [("_law_script", v)]) ∧ ∀ base : Heap, K.In base → base.Ns mainGlobals mg → FnG (PySem.Challenge.rw_fallranks_k12_programs_compared).prog w K mg base 12 f fd ["_law_script"] (spLaw K) := by
  have c : He.SaysD fa fn K := congrArg (fun z : AlK => z.1) cc
  have c2 : exB K = true := congrArg (fun z : AlK => z.2.1) cc
  have c3 : gl.map (fun g => Hx.seenF K (g.1 K)) = gl.map fun g => Hx.saidF g.2.1 g.2.2.1 g.2.2.2 := congrArg (fun z : AlK => z.2.2) cc
  obtain ⟨x1, c2⟩ := Bool.and_eq_true_iff.mp c2
  obtain ⟨x2, c2⟩ := Bool.and_eq_true_iff.mp c2
  obtain ⟨x3, c2⟩ := Bool.and_eq_true_iff.mp c2
  obtain ⟨x4, c2⟩ := Bool.and_eq_true_iff.mp c2
  obtain ⟨x5, x6⟩ := Bool.and_eq_true_iff.mp c2
  have kin := Hx.kinB_ok x5
  obtain ⟨kne, kno, knn, knf⟩ := Hx.eqsB_ok kin x6
  have prp : ∀ f ∈ (["names", "branches", "text"] : List Str), PropOf K (cP K) f (He.ma K (cP K) f) (gAt f K) := fun f hf => Hx.propB_ok (List.all_eq_true.mp x1 f hf)
  have get : ∀ (i : Nat) (g : (PySem.W.Frag → Addr) × Str × Str × Stmt), gl[i]? = some g → ∃ z, FunD K g.2.1 g.2.2.1 (defArgs g.2.2.2) (defBody g.2.2.2) (defScope g.2.2.2) [] [] (g.1 K) z := fun i g e => by
    have e2 := congrArg (fun l => l[i]?) c3
    simp only [List.getElem?_map, e, Option.map_some, Option.some.injEq] at e2
    exact Hx.funF e2 (List.all_eq_true.mp x4 g (List.mem_of_getElem? e))
  have free : ∀ (i : Nat) (x : Str), fa[i]? = some (.free x) → mg x = none := fun i x e => He.free_ok X G (c.fact i (f := .free x) e)
  have glo : ∀ (i : Nat) (x : Str), fa[i]? = some (.glo x) → mg x = some (.ref (He.ga K x)) := fun i x e => He.glo_ok X G (c.fact i (f := .glo x) e)
  have noat : ∀ (i : Nat) (x : Str), fa[i]? = some (.noat "Program" x) → NoAttr K (cP K) x := fun i x e => He.noat_ok (c.fact i (f := .noat "Program" x) e)
  have dun : ∀ (i : Nat) (x : Str), fa[i]? = some (.meth "Program" x) → Ow.Dun K (cP K) x (He.ma K (cP K) x) := fun i x e => by
    have z := c.fact i (f := .meth "Program" x) e
    obtain ⟨z1, z⟩ := Bool.and_eq_true_iff.mp z
    obtain ⟨z2, z3⟩ := Bool.and_eq_true_iff.mp z
    exact ⟨He.eqO_ok z1, z2⟩
  obtain ⟨d0, F0⟩ := c.def_ 0 (d := dd "is_integer" Pg.sInt) rfl
  obtain ⟨d1, F1⟩ := c.def_ 1 (d := dd "is_name" Pg.sName) rfl
  obtain ⟨d2, F2⟩ := c.def_ 2 (d := dd "are_integers" Pg.sInts) rfl
  obtain ⟨d3, F3⟩ := c.def_ 3 (d := dd "is_form" Pg.sForm) rfl
  obtain ⟨d4, F4⟩ := c.def_ 4 (d := dd "are_forms" Pg.sForms) rfl
  obtain ⟨d5, F5⟩ := c.def_ 5 (d := dd "is_numeral" Pg.sNu) rfl
  obtain ⟨d6, F6⟩ := c.def_ 6 (d := dd "_check_names" Pg.sCN) rfl
  obtain ⟨d7, F7⟩ := c.def_ 7 (d := dd "_check_sayings" Pg.sCS) rfl
  obtain ⟨d8, F8⟩ := c.def_ 8 (d := dd "_check_branches" Pg.sCB) rfl
  obtain ⟨d9, F9⟩ := c.def_ 9 (d := dd "_is_saying" Pg.sSay) rfl
  obtain ⟨d10, F10⟩ := c.def_ 10 (d := dd "_is_branch" Pg.sBr) rfl
  obtain ⟨d11, F11⟩ := c.def_ 11 (d := dd "_places_of" Pg.sPl) rfl
  obtain ⟨d12, F12⟩ := c.def_ 12 (d := dd "_text_of" Pg.sTx) rfl
  obtain ⟨d13, F13⟩ := c.def_ 13 (d := dd "_words_of" Pg.sWd) rfl
  obtain ⟨d14, F14⟩ := c.def_ 14 (d := dd "_parts_of" Pg.sPa) rfl
  obtain ⟨d15, F15⟩ := c.def_ 15 (d := dd "_form_of" Pg.sFo) rfl
  obtain ⟨d16, F16⟩ := c.def_ 16 (d := dd "_law_begun" sBegun) rfl
  obtain ⟨d17, F17⟩ := c.def_ 17 (d := dd "_law_cast" sCast) rfl
  obtain ⟨d18, F18⟩ := c.def_ 18 (d := dd "_law_any_of" sAny) rfl
  obtain ⟨d19, F19⟩ := c.def_ 19 (d := dd "_law_tags" sTags) rfl
  obtain ⟨d20, F20⟩ := c.def_ 20 (d := dd "_law_wide" sWide) rfl
  obtain ⟨d21, F21⟩ := c.def_ 21 (d := dd "_law_form" sForm) rfl
  obtain ⟨d22, F22⟩ := c.def_ 22 (d := dd "_law_parts" sParts) rfl
  obtain ⟨d23, F23⟩ := c.def_ 23 (d := dd "_law_words" Pg.sLw) rfl
  obtain ⟨d24, F24⟩ := c.def_ 24 (d := dd "_law_arm_lines" Pg.sLa) rfl
  obtain ⟨d25, F25⟩ := c.def_ 25 (d := dd "_law_lines" Pg.sLl) rfl
  obtain ⟨d26, F26⟩ := c.def_ 26 (d := dd "_law_sheet" Pg.sLs) rfl
  obtain ⟨d27, F27⟩ := c.def_ 27 (d := dd "_law_built" sBuilt) rfl
  obtain ⟨d28, F28⟩ := c.def_ 28 (d := dd "_law_thing" sThing) rfl
  obtain ⟨d29, F29⟩ := c.def_ 29 (d := dd "_law_near" sNear) rfl
  obtain ⟨d30, F30⟩ := c.def_ 30 (d := dd "_law_right" sRight) rfl
  obtain ⟨d31, F31⟩ := c.def_ 31 (d := dd "law" sLaw) rfl
  obtain ⟨d32, F32⟩ := c.def_ 32 (d := dm "__init__" "Program.__init__" Pg.sIni) rfl
  obtain ⟨d33, F33⟩ := c.def_ 33 (d := dm "__str__" "Program.__str__" Pg.sStr) rfl
  obtain ⟨d34, F34⟩ := c.def_ 34 (d := dm "__eq__" "Program.__eq__" Pg.sEqM) rfl
  obtain ⟨d35, F35⟩ := c.def_ 35 (d := dm "__len__" "Program.__len__" Pg.sLen) rfl
  obtain ⟨e0, E0⟩ := get 0 (gAt "names", "names", "Program.names", Pg.sGn) rfl
  obtain ⟨e1, E1⟩ := get 1 (gAt "branches", "branches", "Program.branches", Pg.sGb) rfl
  obtain ⟨e2, E2⟩ := get 2 (gAt "text", "text", "Program.text", Pg.sGt) rfl
  obtain ⟨e3, E3⟩ := get 3 (rAt, "read", "Program.read", Pg.sRd) rfl
  have ee := hfa.symm.trans (glo 31 "law" rfl)
  cases ee
  have b := FunD.bindsA (ps := ["_law_script"]) F31 fun _ _ _ _ _ _ us hl => match us, hl with | [_], _ => rfl
  have M0 : Pg.Mo mg := ⟨(free 37 "isinstance" rfl), (free 35 "int" rfl), (free 38 "bool" rfl), (free 39 "str" rfl), (free 40 "tuple" rfl), (free 33 "len" rfl), (free 41 "all" rfl), (free 42 "enumerate" rfl), (He.int_ok X G (c.fact 47 (f := .int "LONGEST_NAME" 8) rfl)), (He.str_ok X G (c.fact 54 (f := .str "LETTERS" Pg.letS) rfl)), (He.str_ok X G (c.fact 55 (f := .str "FIGURES" Pg.figS) rfl)), (He.int_ok X G (c.fact 48 (f := .int "MOST_NUMBER" 1000000) rfl)), (He.int_ok X G (c.fact 49 (f := .int "MOST_VARIABLES" 3) rfl)), (He.int_ok X G (c.fact 50 (f := .int "MOST_PLACES" 3) rfl)), (He.int_ok X G (c.fact 51 (f := .int "MOST_BRANCHES" 5) rfl)), (He.int_ok X G (c.fact 52 (f := .int "MOST_TESTS" 3) rfl)), (He.int_ok X G (c.fact 53 (f := .int "MOST_SAYINGS" 3) rfl))⟩
  have T1 : Bl mg := ⟨(free 33 "len" rfl), (free 34 "divmod" rfl), (free 35 "int" rfl), (free 36 "abs" rfl)⟩
  have Rg : RangeB mg := ⟨(free 43 "range" rfl), (free 40 "tuple" rfl)⟩
  have U2 : Bl2 mg := ⟨(free 44 "repr" rfl)⟩
  have U3 : Bl3 mg := ⟨(free 45 "max" rfl), (free 46 "min" rfl)⟩
  have gP : mg "Program" = some (.ref (cP K)) := glo 32 "Program" rfl
  have XT : Pg.Txt K mg (cP K) := ⟨He.cls_ok (c.fact 56 (f := .cls "Program") rfl), noat 57 "_names" rfl, noat 58 "_sayings" rfl, noat 59 "_branches" rfl, noat 60 "_places" rfl, noat 61 "_text" rfl, gP⟩
  have J : Pg.Js K mg _ _ _ _ _ _ _ _ := ⟨F0, F1, F3, F4, (glo 0 "is_integer" rfl), (glo 1 "is_name" rfl), (glo 3 "is_form" rfl), (glo 4 "are_forms" rfl), ⟨_, _, F2, (glo 2 "are_integers" rfl)⟩⟩
  have D : Pg.Defs K mg _ _ _ _ _ _ _ _ _ _ _ _ _ _ _ _ _ _ _ _ _ _ _ _ _ _ _ _ _ _ := ⟨J, F5, F6, F7, F8, F9, F10, F11, F12, F13, F14, F15, (glo 5 "is_numeral" rfl), (glo 6 "_check_names" rfl), (glo 7 "_check_sayings" rfl), (glo 8 "_check_branches" rfl), (glo 9 "_is_saying" rfl), (glo 10 "_is_branch" rfl), (glo 11 "_places_of" rfl), (glo 12 "_text_of" rfl), (glo 13 "_words_of" rfl), (glo 14 "_parts_of" rfl), (glo 15 "_form_of" rfl)⟩
  have M : Pg.Mkr K (cP K) _ _ _ _ := ⟨He.mkr_ok (c.fact 65 (f := .mkr "Program") rfl), F32, F33, dun 62 "__str__" rfl⟩
  have Z : Rdr K (cP K) _ _ _ _ := ⟨Hx.readB_ok x3, Hx.cmB_ok x2, E3⟩
  have L : Tx K mg _ _ _ _ _ _ _ _ := ⟨F23, F24, F25, F26, (glo 23 "_law_words" rfl), (glo 24 "_law_arm_lines" rfl), (glo 25 "_law_lines" rfl), (glo 26 "_law_sheet" rfl)⟩
  have Gd : Dr K mg _ _ _ _ _ _ _ _ _ _ := ⟨F17, F18, F19, F20, F21, (glo 17 "_law_cast" rfl), (glo 18 "_law_any_of" rfl), (glo 19 "_law_tags" rfl), (glo 20 "_law_wide" rfl), (glo 21 "_law_form" rfl)⟩
  have A0 : Asks K (cP K) _ _ _ _ _ _ _ _ _ _ _ _ _ := ⟨prp "names" (by decide +kernel), prp "branches" (by decide +kernel), prp "text" (by decide +kernel), E0, E1, E2, F34, F35, dun 63 "__eq__" rfl, dun 64 "__len__" rfl, kne, kno, kin, knn, knf⟩
  have Bd : Df K mg _ _ _ _ _ _ _ _ := ⟨F22, F27, F29, F28, (glo 22 "_law_parts" rfl), (glo 27 "_law_built" rfl), (glo 29 "_law_near" rfl), (glo 28 "_law_thing" rfl)⟩
  exact ⟨_, fun s v => b s [v] rfl, fun base _ _ => ok_law F31 T1 Rg M0 U3 F16 (glo 16 "_law_begun" rfl) F30 (glo 30 "_law_right" rfl) (ok_right F30 T1 Rg U2 M0 Gd XT D M Z L A0 Bd)⟩
end K5
open PySem PySem.W PySem.Calls PyProof.Rows
theorem PySem.Challenge.cw_fallranks_k12_programs_compared_holds : PySem.Challenge.rw_fallranks_k12_programs_compared.Holds := by
  w_on; o_law
  refine HandSHeadRun.head_any (r := OpenLaw.row PySem.Challenge.rw_fallranks_k12_programs_compared) (q := view (OpenLaw.row PySem.Challenge.rw_fallranks_k12_programs_compared).prog [51]) (H := K5.hk) (ob := K5.ob) (M := 9000) (loose := K5.names) (d := HandSHeadRun.topDef (OpenLaw.row PySem.Challenge.rw_fallranks_k12_programs_compared).prog 51) (kwd := []) K5.ob_eq
    (by kernel_rfl) (fun s => by kernel_rfl) K5.run (by kernel_rfl) (by kernel_rfl) (by kernel_rfl) (by rfl) (by first | assumption | decide +kernel) (by decide +kernel) ⟨rfl, rfl, rfl, rfl, rfl, by decide +kernel⟩ ?hw ?hc
  case hw => w_witness2
  case hc =>
    refine Gd.walk_G (l := PySem.Challenge.rw_fallranks_k12_programs_compared) (n := 63) (k := 12) (x := "_law_script") rfl (by decide) (by kernel_rfl) ⟨rfl, by decide, by decide⟩ ?F
    intro w mg fa h Y G hmg0
    obtain ⟨K, KX, c⟩ := Y
    have hmg : mg ("law" : PySem.Str) = some (.ref fa) := by
      have e : (HandSHeadRun.topDef (OpenLaw.row PySem.Challenge.rw_fallranks_k12_programs_compared).prog 51).name = ("law" : PySem.Str) := by kernel_rfl
      rw [← e]
      exact hmg0
    obtain ⟨fd, hb, hF⟩ := K5.facts (w := w) KX G hmg c
    exact ⟨K, fd, K5.spLaw K, KX, hb, fun H a ns hl hbits hS => ⟨a, ns, rfl, hS, hl, hbits, fun _ => rfl⟩, hF⟩
