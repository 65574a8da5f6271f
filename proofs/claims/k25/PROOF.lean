import PyProof.Rows.All
import Wide.All
import OpenK.AllK
import Wide.FinOn
import KE.KExcSuper
import KE.KSuper
import PyProof.FString
import PyProof.FString4
import PyProof.ReprStr
import HandS.ForExc
import PyProof.EqAt
import PyProof.EqKinds
import PyProof.TupleCall
import HandS.ForMost
import HandS.IsInst
import HandS.DictComp
import HandS.SetKeys
import HandS.More
import HandS.Conv
import HandS.TupAny
import HandS.ListItems
import HandS.Style
import HandS.Star
import HandS.Wide
import HandS.DeepEq
import PySem.Challenge.RW_ballchutes_k25_whole_tidy_knots
import HandS.Walk
import PyProof.Rows.SortShell
import KE.KSortTup
import HandS.Sort
import HandS.SortOrd
import HandS.SortRule
import PyProof.InstEq
import PyProof.InstNe
import OpenK.KMeth
import OpenK.KOps
import PyProof.EnumMake
import PyProof.Draws
import PyProof.ListStr
import HandS.RevTup
import HandS.Rev
import PyProof.ListNew
import HandS.TupMul
import KE.KDictList
import HandS.ExcField
set_option Elab.async false
set_option linter.all false
set_option maxRecDepth 100000
set_option maxHeartbeats 4000000
/-! BadNet(x): what is made -/
namespace PySem
namespace Bn
open PySem.W PySem.Calls PyProof.Rows PySem.HandSPX
/-! ### the text of __init__, its places as they come -/
def tA (p1 p2 : Pos) : Arguments := { posonlyargs := [], args := [{ arg := "self", annotation := none, pos := p1 }, { arg := "name", annotation := none, pos := p2 }], vararg := none, kwonlyargs := [], kw_defaults := [], kwarg := none, defaults := [] }
structure Ps where (a1 a2 a3 a4 a5 j1 j2 j3 j4 b1 b2 b3 b4 : Pos)
def P0 : Ps := ⟨⟨10, 8, 10, 13⟩, ⟨10, 8, 10, 15⟩, ⟨10, 8, 10, 24⟩, ⟨10, 8, 10, 53⟩, ⟨10, 8, 10, 53⟩, ⟨10, 27, 10, 43⟩, ⟨10, 44, 10, 48⟩, ⟨10, 43, 10, 51⟩, ⟨10, 25, 10, 52⟩, ⟨11, 8, 11, 12⟩, ⟨11, 8, 11, 17⟩, ⟨11, 20, 11, 24⟩, ⟨11, 8, 11, 24⟩⟩
def tJ (p : Ps) : Expr := .JoinedStr [.Constant (.str "this is no net: ") 0 p.j1, .FormattedValue (.Name "name" p.j2) 114 none p.j3] p.j4
def tB (p : Ps) : List Stmt := [.Expr (.Call (.Attribute (.Call (.Name "super" p.a1) [] [] p.a2) "__init__" p.a3) [tJ p] [] p.a4) p.a5, .Assign [.Attribute (.Name "self" p.b1) "name" p.b2] (.Name "name" p.b3) p.b4]
def tS : Scope := { kind := .function, names := [(PySem.Str.ofString "self", .local), (PySem.Str.ofString "name", .local), (PySem.Str.ofString "__class__", .free), (PySem.Str.ofString "super", .globalImplicit)], isGenerator := false, isCoroutine := false, more := [] }
/-- a name that may be told: a short text, or None -/
inductive Told : Value → Prop
  | none : Told .none
  | str (x : Str) (t : Tok) : (reprText x).length ≤ 10000000 → Told (.str x t)
/-- BadNet at C, its __init__ at fI, the cell of its class at cc, its code at cda -/
structure Txt (K : Frag) (mg : Str → Option Value) (C fI cc cda : Addr) (file : Str) : Prop where
  gC : mg "BadNet" = some (.ref C)
  cls : ∃ nm q N bs bm sn sub ab col dd k0 k1 k2 k3 k5, K.lookup C = some (excClassObj nm q C N bs bm true sn sub ab col dd k0 k1 k2 k3 k5 "ValueError.__new__") ∧ refsVE bm = true ∧ alongIn K "__init__" ((List.dropWhile (· != .ref C) (.ref C :: bm)).drop 1) = some (some (.builtin "ValueError.__init__"))
  sa : findIn K (.ref C) "__setattr__" = some (some (.builtin "object.__setattr__"))
  noN : findIn K (.ref C) "name" = some none
  iC : findIn K (.ref C) "__init__" = some (some (.ref fI))
  tC : typeIn K (.ref fI) = some (.type "function")
  inst : subIn K (.ref C) (.type "ValueError") = some true
  selfS : mroIn K C (.ref C) = some true
  op : nsIn K cStatics "thirdparty.any" = some none
  fn : ∃ (oc : Value) (od : Option Addr) (doc pm : Value) (an : Option Addr) (ct : Value) (osl : Array (Option Value)) (p1 p2 : Pos),
    K.lookup fI = some ⟨oc, od, .func (ksFn "__init__" "BadNet.__init__" (tA p1 p2) (tB P0) tS .none .none doc pm an (.ref cda) ct cc), osl⟩ ∧ codeIn K (.ref cda) "BadNet.__init__" = true
  code : ∃ ccl cdd vs ccs tf, K.lookup cda = some ⟨ccl, cdd, .fields vs, ccs⟩ ∧ vs[2]? = some (.str file tf)
  cell : ∃ cl cld csl, K.lookup cc = some ⟨cl, cld, .cell (some (.ref C)), csl⟩
  noS : mg "super" = none
/-- a fresh exception at x after its __init__ -/
structure Done (h h' : Heap) (x C dx t1 : Addr) (v : Value) : Prop where
  keep : ∀ b o, b ≠ x → h.get? b = some o → h'.get? b = some o
  obj : h'.get? x = some { cls := .ref C, dict := some dx, data := .fields #[.ref t1, .none, .none, .none, .bool false, .none] }
  dbig : h.objs.size ≤ dx
  dne : dx ≠ x
  ns : h'.Ns1 dx (fun y => if y = "name" then some v else none)
section
variable {prog : Program} {w : World} {A : Around} {E : Value → Shared → Prop} {R : Result → Shared → Prop} {s : Shared} {K : Frag} {mg mb : Str → Option Value} {C fI cc cda : Addr} {file : Str}
/-- the text told -/
theorem eval_text {env : Env} {p : Ps} {v : Value} {m : Str → Option Value} {Q : Value → Shared → Prop} (hn : s.heap.Ns env.locals m) (hv : m "name" = some v) (tv : Told v) (hk : env.scope.kind = .function) (hl : env.kindOf "name" = some .local)
    (q : ∀ y t tk, Q (.str y t) { s with toks := tk }) : wpAny (model prog w) A (eval (tJ p) env) Q E s := by
  have ek : evalEach [Expr.Constant (.str "this is no net: ") 0 p.j1, .FormattedValue (.Name "name" p.j2) 114 none p.j3] env = [eval (.Constant (.str "this is no net: ") 0 p.j1) env, eval (.FormattedValue (.Name "name" p.j2) 114 none p.j3) env] := by
    simp [evalEach]
  have two : ∀ (y : Str) (s2 : Shared) (t : Tok), y.length ≤ 10000000 → s2.heap = s.heap ∧ s2.gens = s.gens ∧ s2.drawn = s.drawn ∧ s2.os = s.os →
      ∃ y' t', Value.str y t = .str y' t' ∧ (("" ++ ("this is no net: " : Str)) ++ y').length ≤ sizeLine ∧ Joins (model prog w) A E [] (("" ++ ("this is no net: " : Str)) ++ y') (fun out s1 => out.length ≤ sizeLine ∧ Q (.str out s1.toks) { s1 with toks := s1.toks + 1 }) s2 := fun y s2 t hy hs => by
    have hz : (("" ++ ("this is no net: " : Str)) ++ y).length ≤ sizeLine := by
      rw [strLen_append, sizeLine_eq]
      have : ("" ++ ("this is no net: " : Str)).length = 16 := by decide +kernel
      omega
    refine ⟨y, t, rfl, hz, hz, ?_⟩
    obtain ⟨h2, g2, d2, k2, o2⟩ := s2
    obtain ⟨rfl, rfl, rfl, rfl⟩ := hs
    exact q _ _ _
  refine wpAny_JoinedStr ?_
  rw [ek]
  refine wpAny_Constant_str ?_
  refine ⟨_, _, rfl, by decide +kernel, ?_⟩
  refine wpAny_FormattedValue_repr (wpAny_Name (wpAny_loadName_local hk hl hn hv ?_) (by decide))
  cases tv with
  | none =>
    refine pyReprObj_none (wpAny_formatField_str (two _ _ _ (by decide +kernel) ⟨rfl, rfl, rfl, rfl⟩) (two _ _ _ (by decide +kernel) ⟨rfl, rfl, rfl, rfl⟩) (by decide +kernel))
  | str x t hx =>
    have hx2 : (reprText x).length ≤ sizeLine := by rw [sizeLine_eq]; omega
    exact pyReprObj_str (wpAny_formatField_str (two _ _ _ hx ⟨rfl, rfl, rfl, rfl⟩) (two _ _ _ hx ⟨rfl, rfl, rfl, rfl⟩) hx2) hx2
/-- super().__init__ of ValueError on an exception without a dict -/
theorem call_super_init {nm q : Str} {N : Addr} {bs bm : List Value} {sn : List Str} {sub : List Value} {ab : Bool} {col : Option Bool} {dd : Option Addr} {k0 k1 k2 k3 k5 : Option Value} {u x t0 : Addr} {rest : List Value} {Q : Value → Shared → Prop}
    (hC : s.heap.get? C = some (excClassObj nm q C N bs bm true sn sub ab col dd k0 k1 k2 k3 k5 "ValueError.__new__")) (hx : s.heap.get? x = some (excO C t0)) (hu : s.heap.get? u = some (kxs_mw "ValueError.__init__" x)) (hz : rest.length ≤ sizeLine)
    (hq : ∀ h' t1, (∀ b o, b ≠ x → s.heap.get? b = some o → h'.get? b = some o) → h'.get? x = some (excO C t1) → Q .none { s with heap := h' }) :
    wpAny (model prog w) A (call (.ref u) rest) Q E s := by
  obtain ⟨hh, g, d, tk, os⟩ := s
  have k1 : (Value.type "method-wrapper" == Value.type "method" || Value.type "method-wrapper" == Value.type "builtin_function_or_method" || Value.type "method-wrapper" == Value.type "method-wrapper") = true := by decide
  refine wpAny_call (codeAny_of_tree (show wpAny _ A.in1 (callAny (.ref u) ⟨rest, []⟩) _ _ _ from ?_))
  simp only [callAny]
  refine wpAny_bind (wpAny_load hu ?_)
  simp only [kxs_mw, k1, if_true]
  refine KFB.if_so (by decide) (wpAny_bind (check_bound_init F.excBase_ValueError.toExcCallFacts hC hx rfl ?_))
  refine wpAny_bind (wpAny_pure (wpAny_pure ⟨plainId_quiet F.excBase_ValueError.init.plain _, codeAny_builtin F.excBase_ValueError.initEntry ?_⟩))
  exact exc_init_tree (cls := .ref C) (t0 := t0) (dv := none) (c2 := .none) (c3 := .none) (b4 := .bool false) hx hz fun h' a b _ => hq h' _ a b
end
end Bn
end PySem

namespace PySem
namespace Bn
open PySem.W PySem.Calls PyProof.Rows PySem.HandSPX
section
variable {prog : Program} {w : World} {A : Around} {E : Value → Shared → Prop} {R : Result → Shared → Prop} {s : Shared} {K : Frag} {mg mb : Str → Option Value} {C fI cc cda : Addr} {file : Str}
theorem bn_init (T : Txt K mg C fI cc cda file) {x t0 : Addr} {v : Value} (X : K.In s.heap) (hlim : s.heap.NoLimit) (hg : s.heap.Ns mainGlobals mg) (hb : s.heap.Ns builtinsNs mb) (hsu : mb "super" = some (.type "super"))
    (hfile : ((prog.main.file : Str) == file) = true) (htop : (prog.main.scope.names.lookup ("super" : Str)).isSome = false) (hx : s.heap.get? x = some (excO C t0)) (hnx : K.lookup x = none) (tv : Told v) (hroom : A.depth < recursionLimit)
    (hq : ∀ h' tk dx t1, Done s.heap h' x C dx t1 v → R (.ok (.ret .none)) { s with heap := h', toks := tk }) :
    codeAny (model prog w) A (.call (.ref fI) ⟨[.ref x, v], []⟩) R s := by
  obtain ⟨oc, od, doc, pm, an, ct, osl, p1, p2, ho, hcd⟩ := T.fn
  obtain ⟨nm, q, N, bs, bm, sn, sub, ab, col, dd, k0, k1, k2, k3, k5, hC, hbm, hal⟩ := T.cls
  obtain ⟨ccl, cdd, vs, ccs, tf, hcode, hvs⟩ := T.code
  obtain ⟨cl, cld, csl, hcell⟩ := T.cell
  have hcl : clsIn K C = some { name := nm, bases := bs, mro := .ref C :: bm, ns := N, qualname := q, hasDict := true, slotNames := sn, subclasses := sub, abstract := ab, collection := col, hasDel := false } := by unfold clsIn; rw [hC] <;> rfl
  have hxC : x ≠ C := fun z => by
    rw [z, hC] at hnx
    cases hnx
  refine ks_codeAny_call_defAt (fd := ksFn "__init__" "BadNet.__init__" (tA p1 p2) (tB P0) tS .none .none doc pm an (.ref cda) ct cc) (body := tB P0) (binds := [("self", .ref x), ("name", v)]) hroom (X _ _ ho) rfl hlim (codeRec_of X hcd) rfl (BindsTo.of_eq (by first | rfl | with_unfolding_all rfl))
    (show ∀ y ∈ tS.names, y.2 ≠ .cell by decide +kernel) (fun y hy => by
      rcases List.mem_cons.mp hy with e | e
      · rw [e]; rfl
      · rw [List.mem_singleton.mp e]; rfl) (fun h₁ hns hk₁ => ?_)
  have X₁ : K.In h₁ := X.keeps hk₁
  have g1 := hg.keeps hk₁
  have b1 := hb.keeps hk₁
  have hx₁ := hk₁ _ _ hx
  have mSelf : (fun y => List.lookup y ([("self", .ref x), ("name", v)] : List (Str × Value)).reverse) "self" = some (.ref x) := by
    show List.lookup ("self" : Str) [("name", v), ("self", .ref x)] = _
    rw [List.lookup_cons, show (("self" : Str) == "name") = false from by decide +kernel]
    rfl
  have mName : (fun y => List.lookup y ([("self", .ref x), ("name", v)] : List (Str × Value)).reverse) "name" = some v := rfl
  have kind : tS.kind = .function := rfl
  have lName : tS.names.lookup ("name" : Str) = some .local := by decide +kernel
  have lSelf : tS.names.lookup ("self" : Str) = some .local := by decide +kernel
  have lSup : tS.names.lookup ("super" : Str) = some .globalImplicit := by decide +kernel
  have lCls : tS.names.lookup ("__class__" : Str) = some .free := by decide +kernel
  show wpAt _ _ _ (execs (tB P0) (ksEnv "BadNet.__init__" tS s.heap.objs.size fI (.ref cda) cc)) _ _ _
  refine ks_wpAt_execs_cons (ks_wpAt_Expr_any (ks_wpAt_MethodCall ?_))
  refine ks_wpAt_super_base (env := ksEnv "BadNet.__init__" tS s.heap.objs.size fI (.ref cda) cc) lSup lCls (by decide +kernel) rfl (X₁ _ _ ho) rfl rfl rfl (X₁ _ _ hcode) rfl hvs hfile htop ?_
  refine ks_loadName_global kind lSup (loadGlobal_builtin (env := ksEnv "BadNet.__init__" tS s.heap.objs.size fI (.ref cda) cc) g1 T.noS b1 hsu ⟨rfl, ?_⟩)
  refine wpAny_loadName_free kind lCls rfl ⟨_, X₁ _ _ hcell, rfl⟩ ?_
  refine wpAny_loadName_local kind lSelf hns mSelf ?_
  refine ks_wpAny_isType_cls (X₁ _ _ hC) rfl ⟨rfl, ?_⟩
  refine ks_wpAny_call_super (X₁ _ _ hC) rfl hx₁ rfl (fun c e => nomatch e) (looks_mroIn X₁ T.selfS) fun h2 e2 kk2 => ?_
  have X₂ : K.In h2 := X₁.keeps kk2
  have hx₂ := kk2 _ _ hx₁
  have I₂ : InstAt h2 x (excO C t0) C none := ⟨hx₂, rfl, rfl, trivial⟩
  refine kxs_getMethod kxs_ValueError e2 (looks_opaque X₂ T.op) (l₀ := .ref C :: bm) (fun A Q E s k q => wpAny_bind ((looks_clsIn X₂ hcl) A _ E s k (wpAny_pure q))) rfl X₂ hal (I₂.type.andThen (looks_subIn X₂ T.inst)) hxC (by decide +kernel) ?_
  have X₃ : K.In (h2.push (kxs_mw "ValueError.__init__" x)) := X₂.keeps fun b o e => Heap.get?_push_of_some _ e
  have hx₃ : (h2.push (kxs_mw "ValueError.__init__" x)).get? x = some (excO C t0) := Heap.get?_push_of_some _ hx₂
  have hu : (h2.push (kxs_mw "ValueError.__init__" x)).get? h2.objs.size = some (kxs_mw "ValueError.__init__" x) := Heap.get?_push_size _ rfl
  have hns₃ : (h2.push (kxs_mw "ValueError.__init__" x)).Ns s.heap.objs.size (fun y => List.lookup y ([("self", .ref x), ("name", v)] : List (Str × Value)).reverse) := hns.keeps fun b o e => Heap.get?_push_of_some _ (kk2 b o e)
  generalize hh3 : h2.push (kxs_mw "ValueError.__init__" x) = h3 at X₃ hx₃ hu hns₃
  have k13 : ∀ b o, h₁.get? b = some o → h3.get? b = some o := fun b o e => by
    rw [← hh3]
    exact Heap.get?_push_of_some _ (kk2 b o e)
  generalize h2.objs.size = u at hu
  refine kxs_callWith (i := "ValueError.__init__") (x := x) rfl (evalArgs_plain (PyProof.Rows.args_cons (eval_text (env := ksEnv "BadNet.__init__" tS s.heap.objs.size fI (.ref cda) cc) hns₃ mName tv kind lName fun y t tk => PyProof.Rows.args_nil ?_) rfl))
  refine ⟨hu, call_super_init (X₃ _ _ hC) hx₃ hu (by show 1 ≤ sizeLine; decide) fun h4 t1 k34 hx₄ => ?_⟩
  have k14 : ∀ b o, b ≠ x → h₁.get? b = some o → h4.get? b = some o := fun b o n e => k34 b o n (k13 b o e)
  have X₄ : K.In h4 := fun a o e => k14 a o (fun z => by rw [z, hnx] at e; cases e) (X₁ a o e)
  have hLx : s.heap.objs.size ≠ x := Nat.ne_of_gt (Heap.lt_size hx)
  have hns₄ : h4.Ns s.heap.objs.size (fun y => List.lookup y ([("self", .ref x), ("name", v)] : List (Str × Value)).reverse) := hns.at fun o e => k14 _ o hLx e
  show wpAt _ _ _ (execs [_] _) _ _ _
  refine ks_wpAt_execs_cons (ks_wpAt_Assign_Attr (wpAt_of_wpAny (wpAny_Name (wpAny_loadName_local kind lName hns₄ mName ?_) (by decide +kernel))))
  refine wpAny_Name (wpAny_loadName_local kind lSelf hns₄ mSelf ?_) (by decide +kernel)
  refine set_plain X₄ (ox := excO C t1) (od := none) ⟨hx₄, rfl, rfl, trivial⟩ T.sa (exc_osa X₄ hx₄ hcl (show refsVE (.ref C :: bm) = true from hbm) rfl T.noN fun h5 tk dx k45 dbig dne hx₅ hn₅ => ?_)
  refine wpAt_of_wpAny (wpAny_execs_nil (hq h5 _ dx t1 ⟨fun b o n e => k45 b o n (k14 b o n (hk₁ b o e)), hx₅, Nat.le_trans (Nat.le_of_lt hns₄.lt) dbig, dne, hn₅⟩))
/-- a BadNet that was made -/
structure Made (h h' : Heap) (e C d : Addr) (v : Value) : Prop where
  keep : ∀ b o, h.get? b = some o → h'.get? b = some o
  new : h.objs.size ≤ e
  obj : ∃ oe vs, h'.get? e = some oe ∧ oe.cls = .ref C ∧ oe.dict = some d ∧ oe.data = .fields vs ∧ vs[1]? = some .none
  dbig : h.objs.size ≤ d
  dne : d ≠ e
  ns : h'.Ns1 d (fun y => if y = "name" then some v else none)
theorem bn_made (T : Txt K mg C fI cc cda file) {v : Value} (X : K.In s.heap) (hlim : s.heap.NoLimit) (hg : s.heap.Ns mainGlobals mg) (hb : s.heap.Ns builtinsNs mb) (hsu : mb "super" = some (.type "super"))
    (hfile : ((prog.main.file : Str) == file) = true) (htop : (prog.main.scope.names.lookup ("super" : Str)).isSome = false) (tv : Told v) (hroom : A.depth + 1 < recursionLimit)
    (hq : ∀ h' tk e d, Made s.heap h' e C d v → R (.ok (.ret (.ref e))) { s with heap := h', toks := tk }) : codeAny (model prog w) A (.call (.ref C) ⟨[v], []⟩) R s := by
  obtain ⟨nm, q, N, bs, bm, sn, sub, ab, col, dd, k0, k1, k2, k3, k5, hC, hbm, _⟩ := T.cls
  obtain ⟨hp, g, dr, tk, os⟩ := s
  have up : ∀ b o, hp.get? b = some o → ((hp.push (kdv_tup [v])).push (excO C hp.objs.size)).get? b = some o := fun b o e => Heap.get?_push_of_some _ (Heap.get?_push_of_some _ e)
  have at1 : ((hp.push (kdv_tup [v])).push (excO C hp.objs.size)).get? (hp.objs.size + 1) = some (excO C hp.objs.size) := by heap_get
  have notK : K.lookup (hp.objs.size + 1) = none := by
    cases z : K.lookup (hp.objs.size + 1) with
    | none => rfl
    | some o =>
      have z1 : hp.get? (hp.objs.size + 1) = some o := X _ _ z
      exact (Nat.lt_irrefl _ (Nat.lt_of_succ_lt (Heap.lt_size z1))).elim
  refine call_own F.excBase_ValueError (fun Y => refsVE_contains Y bm hbm) (X _ _ hC) (looks_findIn X T.iC) (fun self => bind_fn X self T.tC) (by rw [sizeLine_eq]; show 1 ≤ _; decide) ?_
  refine bn_init (s := ⟨(hp.push (kdv_tup [v])).push (excO C hp.objs.size), g, dr, tk, os⟩) T (X.keeps up) (hlim.keeps up) (hg.keeps up) (hb.keeps up) hsu hfile htop at1 notK tv (by show A.depth + 1 < recursionLimit; exact hroom) fun h' tk' dx t1 dn => ?_
  have sz : ((hp.push (kdv_tup [v])).push (excO C hp.objs.size)).objs.size = hp.objs.size + 2 := by rw [Heap.size_push, Heap.size_push]
  have dbig := dn.dbig
  have dbig' : hp.objs.size + 2 ≤ dx := by
    rw [← sz]
    exact dbig
  exact ⟨rfl, hq h' tk' (hp.objs.size + 1) dx ⟨fun b o e => dn.keep b o (Nat.ne_of_lt (Nat.lt_succ_of_lt (Heap.lt_size e))) (up b o e), Nat.le_succ _, ⟨_, _, dn.obj, rfl, rfl, rfl, rfl⟩, Nat.le_trans (Nat.le_add_right _ 2) dbig', dn.dne, dn.ns⟩⟩
end
end Bn
end PySem

/-! raise BadNet(x), error.name -/
namespace Bn
open PySem PySem.Spec PyProof.Rows L2
/-- values that may be told -/
def TellV : V → Prop
  | .non => True
  | .str x => (reprText x).length ≤ 10000000
  | _ => False
theorem told_of {v : V} {u : Value} (r : RelV v u) (h : TellV v) : PySem.Bn.Told u := by
  cases v with
  | non =>
    cases (show u = Value.none from r)
    exact .none
  | str x =>
    obtain ⟨t, rfl⟩ := r
    exact .str x t h
  | _ => exact False.elim h
theorem lookN {v : V} : List.lookup ("name" : Str) [(("name" : Str), v)] = some v := by simp [List.lookup]
theorem relN {v : V} {v' : Value} (r : RelV v v') (f : Str) : RelO (List.lookup f [(("name" : Str), v)]) (if f = "name" then some v' else none) := by
  by_cases e : f = "name"
  · rw [e, if_pos rfl, lookN]
    exact r
  · have e2 : (f == ("name" : Str)) = false := by simpa using e
    rw [if_neg e, show List.lookup f [(("name" : Str), v)] = none from by simp [List.lookup, e2]]
    trivial
/-- what the written part says, beside Bn.Txt -/
structure BadC (X : Cx) (C fI cc cda : Addr) (file : Str) : Prop where
  T : PySem.Bn.Txt X.K X.mg C fI cc cda file
  kC : PySem.W.keepIn X.K (.ref C) = true
  exC : PySem.W.subIn X.K (.ref C) (.type "BaseException") = some true
  tyC : PySem.W.typeIn X.K (.ref C) = some (.type "type")
  file_ : ((X.prog.main.file : Str) == file) = true
  top_ : (X.prog.main.scope.names.lookup ("super" : Str)).isSome = false
section
variable {X : Cx} {C fI cc cda : Addr} {file : Str}
/-- BadNet(e) -/
def tMkBad (C : Addr) (ta : TA) : L2.St → Hp → XK → Prop := fun σ H Q => ta σ H fun vs H1 => ∃ v, vs = [v] ∧ TellV v ∧ ∀ d, H1 d = none → Q (.ref C) (some d) (upd H1 d (.xd [(("name" : Str), v)]))
theorem pmk_bad {a : Expr} {ta : TA} {p pos : Pos} {k : Nat} (B : BadC X C fI cc cda file) (hr : Room k X.A) (ha : PA X [a] ta) (hg : Gl X "BadNet" := by rfl)
    (he : starEach (a :: []) X.env = (false, eval a X.env) :: starEach [] X.env := by rfl) (hpl : (backTo pos (starEach [] X.env)).any (·.1) = false := by rfl) :
    PMk X (.Call (.Name "BadNet" p) [a] [] pos) (tMkBad C ta) := by
  intro pz s σ H Q I h
  refine wpAny_Call_Name_kw (ld_glob I hg B.T.gC (PySem.W.callWith_K (h₀ := X.base) I.ok.mod.kin B.kC (thn (ha.run pos pz s σ H _ I h) fun us s1 hh => ?_) he hpl))
  obtain ⟨vs, H1, J1, r1, v, ev, tv, q1⟩ := hh
  subst ev
  obtain ⟨v', rfl, rv⟩ := vals1 r1
  refine ⟨J1.kIn, ?_⟩
  show wpAny _ _ (call (.ref C) [v']) _ _ _
  have hlim := J1.nolimit
  have hglob := J1.mod.glob.keeps J1.bk
  obtain ⟨mb, b1, b2⟩ := J1.mod.blt
  have hblt := b1.keeps J1.bk
  have hsu : mb "super" = some (.type "super") := (b2 "super" (by decide +kernel)).trans (by decide +kernel)
  obtain ⟨hp, g, dr, tk, os⟩ := s1
  refine wpAny_call (PySem.Bn.bn_made B.T J1.kIn hlim hglob hblt hsu B.file_ B.top_ (told_of rv tv) (by have := hr.dp; omega) fun h' tk' e d M => ?_)
  show MkP X pz σ Q (.ref e) ⟨h', g, dr, tk', os⟩
  obtain ⟨oe, fv, hoe, hc, hd, hdat, h1⟩ := M.obj
  obtain ⟨G', g1, g2⟩ := restrict h' fun b => decide (b ≠ e)
  have gk : ∀ b, b ≠ e → G'.get? b = h'.get? b := fun b hb => g1 b (decide_eq_true hb)
  have ge : G'.get? e = none := g2 e (by simp)
  have old : ∀ b o, hp.get? b = some o → G'.get? b = some o := fun b o q => (gk b (Nat.ne_of_lt (Nat.lt_of_lt_of_le (Heap.lt_size q) M.new))).trans (M.keep b o q)
  have ob : ObjOk X.prog X.w (upd H1 d (.xd [(("name" : Str), v)])) G' d (.xd [(("name" : Str), v)]) := ⟨_, M.ns.at (fun o q => (gk d M.dne).trans q), fun f => relN rv f⟩
  have J : Inv X pz σ (upd H1 d (.xd [(("name" : Str), v)])) ⟨G', g, dr, tk', os⟩ := J1.laid (t' := tk') old M.dbig ob
  refine ⟨e, oe, fv, ⟨G', g, dr, tk', os⟩, _, .ref C, some d, rfl, J, fun b o q => ?_, ge, hoe, ⟨hc, hd⟩, hdat, h1, ?_, rfl, J1.bare, raises_own B.exC B.tyC, q1 d (J1.hok.fresh M.dbig)⟩
  · by_cases hb : b = e
    · have q' : G'.get? b = some o := q
      rw [hb, ge] at q'
      cases q'
    · exact (gk b hb).symm.trans q
  · rw [upd_ne (Ne.symm M.dne)]
    exact J1.hok.fresh M.new
def tRaiseBad (C : Addr) (W : WX) (ta : TA) : TS := fun _ σ H => tMkBad C ta σ H fun cls d H' => W cls d σ H'
theorem ps_raiseBad {a : Expr} {ta : TA} {W : WX} {p pos pos2 : Pos} {k : Nat} (hc : X.calm = true) (B : BadC X C fI cc cda file) (hr : Room k X.A) (tk : Takes X W) (ha : PA X [a] ta) (hg : Gl X "BadNet" := by rfl)
    (he : starEach (a :: []) X.env = (false, eval a X.env) :: starEach [] X.env := by rfl) (hpl : (backTo pos (starEach [] X.env)).any (·.1) = false := by rfl) :
    PS X (.Raise (some (.Call (.Name "BadNet" p) [a] [] pos)) none pos2) (tRaiseBad C W ta) := ps_raise hc tk (pmk_bad B hr ha hg he hpl)
end
end Bn

/-! The text by places, and what is used everywhere. -/
namespace Bc
open PySem L2
def top (i : Nat) : Stmt := PySem.Challenge.pw_ballchutes_k25_whole_tidy_knots.main.body.getD i (.Pass ⟨0, 0, 0, 0⟩)
abbrev sNet : Stmt := top 12
abbrev sInit : Stmt := inClass sNet 0
abbrev sPB : Stmt := inClass sNet 3
abbrev sLen : Stmt := inClass sNet 4
abbrev sHas : Stmt := inClass sNet 5
abbrev sEq : Stmt := inClass sNet 6
abbrev sLeaders : Stmt := top 13
abbrev sMet : Stmt := top 14
abbrev sKinds : Stmt := top 15
abbrev sNames : Stmt := top 16
abbrev sIsName : Stmt := top 17
abbrev sRows : Stmt := top 18
abbrev sAreRows : Stmt := top 19
abbrev sIsRow : Stmt := top 20
abbrev sIsDrop : Stmt := top 21
abbrev sInlets : Stmt := top 22
abbrev sChMet : Stmt := top 23
abbrev sIsNum : Stmt := top 25
abbrev sChNet : Stmt := top 26
abbrev sIsSt : Stmt := top 27
abbrev sChSt : Stmt := top 28
abbrev sShort : Stmt := top 30
abbrev sLeast : Stmt := top 31
abbrev sIsTidy : Stmt := top 33
abbrev sTidied : Stmt := top 34
abbrev sTidSt : Stmt := top 35
abbrev sAlike : Stmt := top 36
abbrev sDraw : Stmt := top 38
abbrev sLKnots : Stmt := top 39
abbrev sLInlets : Stmt := top 40
abbrev sGoes : Stmt := top 41
abbrev sPad : Stmt := top 42
abbrev sRef : Stmt := top 43
abbrev sLaw : Stmt := top 44
/-! ### heaps -/
theorem same_upd {H : Hp} {p : Addr} {o : HO} (h : H p = none) : Same H (upd H p o) := fun b u e => by
  rw [upd_ne (ne_of_none e h)]
  exact e
theorem Same.updn {H H1 : Hp} {p : Addr} {o : HO} (e : Same H H1) (h : H1 p = none) : Same H (upd H1 p o) := e.trans (same_upd h)
/-- what H has not yet may be changed -/
theorem Same.mut {H H1 : Hp} {p : Addr} {o : HO} (e : Same H H1) (h : H p = none) : Same H (upd H1 p o) := fun a u ha => by
  rw [upd_ne (ne_of_none ha h)]
  exact e a u ha
theorem sz {n : Nat} (h : n ≤ 100000) : n ≤ sizeLine := Nat.le_trans h (by decide)
theorem szl {n : Nat} (h : n < 100000) : n < sizeLine := Nat.lt_of_lt_of_le h (by decide)
/-! ### data: values that stand in the heap as they were made -/
mutual
inductive Dt (H : Hp) : V → PyData → Prop
  | non : Dt H .non .none
  | bl (b : Bool) : Dt H (.bl b) (.bool b)
  | int (i : Int) : Dt H (.int i) (.int i)
  | str (x : Str) : Dt H (.str x) (.str x)
  | lst {a : Addr} {xs : List V} {ds : List PyData} : H a = some (.lst xs) → Dts H xs ds → Dt H (.ref a) (.list ds)
  | tup {a : Addr} {xs : List V} {ds : List PyData} : H a = some (.tup xs) → Dts H xs ds → Dt H (.ref a) (.tuple ds)
inductive Dts (H : Hp) : List V → List PyData → Prop
  | nil : Dts H [] []
  | cons {v : V} {vs : List V} {d : PyData} {ds : List PyData} : Dt H v d → Dts H vs ds → Dts H (v :: vs) (d :: ds)
end
mutual
theorem Dt.mono {H H' : Hp} (e : Same H H') : ∀ (d : PyData) (v : V), Dt H v d → Dt H' v d
  | .none, _, .non => .non
  | .bool _, _, .bl b => .bl b
  | .int _, _, .int i => .int i
  | .str _, _, .str x => .str x
  | .list ds, _, .lst h k => .lst (e _ _ h) (Dts.mono e ds _ k)
  | .tuple ds, _, .tup h k => .tup (e _ _ h) (Dts.mono e ds _ k)
theorem Dts.mono {H H' : Hp} (e : Same H H') : ∀ (ds : List PyData) (vs : List V), Dts H vs ds → Dts H' vs ds
  | [], _, .nil => .nil
  | d :: ds, _, .cons h k => .cons (Dt.mono e d _ h) (Dts.mono e ds _ k)
end
theorem Dt.go {H H' : Hp} {v : V} {d : PyData} (h : Dt H v d) (e : Same H H') : Dt H' v d := Dt.mono e d v h
theorem Dts.go {H H' : Hp} {v : List V} {d : List PyData} (h : Dts H v d) (e : Same H H') : Dts H' v d := Dts.mono e d v h
mutual
theorem Dt.dp {K : PySem.W.Frag} {H : Hp} : ∀ (d : PyData) (v : V), Dt H v d → Dp K H v d
  | .none, _, .non => .non
  | .bool _, _, .bl b => .bl b
  | .int _, _, .int i => .int i
  | .str _, _, .str x => .str x
  | .list ds, _, .lst h k => .lst (SqL.of h) (Dts.dp ds _ k)
  | .tuple ds, _, .tup h k => .tup (SqT.of h) (Dts.dp ds _ k)
theorem Dts.dp {K : PySem.W.Frag} {H : Hp} : ∀ (ds : List PyData) (vs : List V), Dts H vs ds → DpAll K H vs ds
  | [], _, .nil => .nil
  | d :: ds, _, .cons h k => .cons (Dt.dp d _ h) (Dts.dp ds _ k)
end
theorem Dts.length {H : Hp} : ∀ {vs : List V} {ds : List PyData}, Dts H vs ds → vs.length = ds.length
  | _, _, .nil => rfl
  | _, _, .cons _ k => by rw [List.length_cons, List.length_cons, Dts.length k]
theorem Dts.append {H : Hp} : ∀ {vs ws : List V} {ds es : List PyData}, Dts H vs ds → Dts H ws es → Dts H (vs ++ ws) (ds ++ es)
  | _, _, _, _, .nil, k => k
  | _, _, _, _, .cons h k, l => .cons h (Dts.append k l)
theorem Dts.take {H : Hp} : ∀ {vs : List V} {ds : List PyData} (n : Nat), Dts H vs ds → Dts H (vs.take n) (ds.take n)
  | _, _, 0, _ => .nil
  | _, _, _ + 1, .nil => .nil
  | _, _, n + 1, .cons h k => .cons h (Dts.take n k)
theorem Dts.drop {H : Hp} : ∀ {vs : List V} {ds : List PyData} (n : Nat), Dts H vs ds → Dts H (vs.drop n) (ds.drop n)
  | _, _, 0, k => k
  | _, _, _ + 1, .nil => .nil
  | _, _, n + 1, .cons h k => Dts.drop n k
theorem Dts.get {H : Hp} : ∀ {vs : List V} {ds : List PyData} {i : Nat} {d : PyData}, Dts H vs ds → ds[i]? = some d → ∃ v, vs[i]? = some v ∧ Dt H v d
  | _, _, _, _, .nil, e => absurd e (by simp)
  | _, _, 0, _, .cons h _, e => by simp at e; subst e; exact ⟨_, rfl, h⟩
  | _, _, i + 1, d, .cons _ k, e => by
    obtain ⟨v, h1, h2⟩ := Dts.get (i := i) (d := d) k (by simpa using e)
    exact ⟨v, by simpa using h1, h2⟩
theorem Dts.getV {H : Hp} : ∀ {vs : List V} {ds : List PyData} {i : Nat} {v : V}, Dts H vs ds → vs[i]? = some v → ∃ d, ds[i]? = some d ∧ Dt H v d
  | _, _, _, _, .nil, e => absurd e (by simp)
  | _, _, 0, _, .cons h _, e => by simp at e; subst e; exact ⟨_, rfl, h⟩
  | _, _, i + 1, d, .cons _ k, e => by
    obtain ⟨v, h1, h2⟩ := Dts.getV (i := i) (v := d) k (by simpa using e)
    exact ⟨v, by simpa using h1, h2⟩
theorem Dts.strs {H : Hp} : ∀ (zs : List Str), Dts H (zs.map V.str) (zs.map PyData.str)
  | [] => .nil
  | z :: zs => .cons (.str z) (Dts.strs zs)
theorem Dts.of_strs {H : Hp} : ∀ {vs : List V} {zs : List Str}, Dts H vs (zs.map PyData.str) → vs = zs.map V.str
  | [], [], _ => rfl
  | _ :: _, [], h => nomatch h
  | [], z :: zs, h => nomatch h
  | v :: vs, z :: zs, .cons h k => by
    cases h
    rw [Dts.of_strs k] <;> rfl
/-! ### nets as data -/
abbrev Drop := List Str
abbrev Row := List Drop
abbrev Rows := Row × Row
def dDrop (d : Drop) : PyData := .tuple (d.map PyData.str)
def dRow (r : Row) : PyData := .tuple (r.map dDrop)
def dRows (r : Rows) : PyData := .tuple [dRow r.1, dRow r.2]
/-- a dict's pairs, its keys texts -/
inductive Dk (H : Hp) : List (Key × V) → List (Str × PyData) → Prop
  | nil : Dk H [] []
  | cons {v : V} {kvs : List (Key × V)} {k : Str} {d : PyData} {ds : List (Str × PyData)} : Dt H v d → Dk H kvs ds → Dk H ((.inr k, v) :: kvs) ((k, d) :: ds)
theorem Dk.go {H H' : Hp} (e : Same H H') : ∀ {kvs : List (Key × V)} {ds : List (Str × PyData)}, Dk H kvs ds → Dk H' kvs ds
  | _, _, .nil => .nil
  | _, _, .cons h k => .cons (h.go e) (Dk.go e k)
theorem Dk.length {H : Hp} : ∀ {kvs : List (Key × V)} {ds : List (Str × PyData)}, Dk H kvs ds → kvs.length = ds.length
  | _, _, .nil => rfl
  | _, _, .cons _ k => by rw [List.length_cons, List.length_cons, Dk.length k]
theorem Dk.keys {H : Hp} : ∀ {kvs : List (Key × V)} {ds : List (Str × PyData)}, Dk H kvs ds → kvs.map (·.1) = (ds.map (·.1)).map Sum.inr
  | _, _, .nil => rfl
  | _, _, .cons _ k => by
    simp only [List.map_cons]
    rw [Dk.keys k]
theorem valV_nil {k : Key} : valV ([] : List (Key × V)) k = none := rfl
theorem valV_cons {k j : Key} {v : V} {r : List (Key × V)} : valV ((j, v) :: r) k = if j = k then some v else valV r k := by
  unfold valV
  rw [List.find?_cons]
  by_cases h : j = k
  · simp [h]
  · simp [h]
/-- what a dict of data has at a key -/
theorem Dk.get {H : Hp} : ∀ {kvs : List (Key × V)} {ds : List (Str × PyData)} {x : Str} {d : PyData}, Dk H kvs ds → ds.lookup x = some d → ∃ v, valV kvs (.inr x) = some v ∧ Dt H v d
  | _, _, _, _, .nil, e => absurd e (by simp)
  | _, _, x, d, .cons (k := j) h k, e => by
    rw [List.lookup_cons] at e
    rw [valV_cons]
    by_cases q : j = x
    · subst q
      simp at e
      subst e
      exact ⟨_, if_pos rfl, h⟩
    · have q2 : (x == j) = false := by simpa using fun z => q z.symm
      rw [q2] at e
      rw [if_neg (by simpa using q)]
      exact Dk.get k e
theorem Dk.none {H : Hp} : ∀ {kvs : List (Key × V)} {ds : List (Str × PyData)} {x : Str}, Dk H kvs ds → ds.lookup x = none → valV kvs (.inr x) = none
  | _, _, _, .nil, e => rfl
  | _, _, x, .cons (k := j) h k, e => by
    rw [List.lookup_cons] at e
    rw [valV_cons]
    by_cases q : j = x
    · subst q
      simp at e
    · have q2 : (x == j) = false := by simpa using fun z => q z.symm
      rw [q2] at e
      rw [if_neg (by simpa using q)]
      exact Dk.none k e
end Bc

namespace Bc
open PySem L2
/-- te gives v, making objects alone -/
def Ev (te : TE) (σ : L2.St) (H : Hp) (v : V) : Prop := ∀ Q : VK, (∀ H', Same H H' → Q v H') → te σ H Q
def EvB (tt : TT) (σ : L2.St) (H : Hp) (b : Bool) : Prop := ∀ Q : Bool → Hp → Prop, (∀ H', Same H H' → Q b H') → tt σ H Q
/-- te gives data -/
def EvD (te : TE) (σ : L2.St) (H : Hp) (d : PyData) : Prop := ∀ Q : VK, (∀ v H', Same H H' → Dt H' v d → Q v H') → te σ H Q
theorem ev_tv {σ : L2.St} {H : Hp} {i : Nat} {v : V} (h : σ[i]? = some (some v)) : Ev (tVar i) σ H v := fun Q q => ⟨v, h, q H (Same.refl H)⟩
theorem ev_tc {σ : L2.St} {H : Hp} {v : V} : Ev (tC v) σ H v := fun Q q => q H (Same.refl H)
theorem EvB.of {te : TE} {σ : L2.St} {H : Hp} {b : Bool} (h : Ev te σ H (.bl b)) : EvB (tB te) σ H b := fun Q q => h _ fun H' e => ⟨b, rfl, q H' e⟩
theorem EvB.of' {te : TE} {σ : L2.St} {H : Hp} {b : Bool} (h : Ev te σ H (.bl b)) : EvB (tTest te) σ H b := fun Q q => h _ fun H' e => ⟨b, rfl, q H' e⟩
theorem EvB.not {tt : TT} {σ : L2.St} {H : Hp} {b : Bool} (h : EvB tt σ H b) : EvB (tNot tt) σ H (!b) := fun Q q => h _ fun H' e => q H' e
theorem EvB.or {t u : TT} {σ : L2.St} {H : Hp} {a b : Bool} (h : EvB t σ H a) (k : a = false → ∀ H', Same H H' → EvB u σ H' b) : EvB (tOr t u) σ H (a || b) := fun Q q => h _ fun H' e => by
  cases a with
  | true => exact iteT (q H' e)
  | false => exact iteF (k rfl H' e _ fun H2 e2 => q H2 (e.trans e2))
theorem EvB.and {t u : TT} {σ : L2.St} {H : Hp} {a b : Bool} (h : EvB t σ H a) (k : a = true → ∀ H', Same H H' → EvB u σ H' b) : EvB (tAnd t u) σ H (a && b) := fun Q q => h _ fun H' e => by
  cases a with
  | true => exact iteT (k rfl H' e _ fun H2 e2 => q H2 (e.trans e2))
  | false => exact iteF (q H' e)
theorem Ev.andV {t u : TE} {σ : L2.St} {H : Hp} {a b : Bool} (h : Ev t σ H (.bl a)) (k : a = true → ∀ H', Same H H' → Ev u σ H' (.bl b)) : Ev (tAndV t u) σ H (.bl (a && b)) := fun Q q => h _ fun H' e => ⟨a, rfl, by
  cases a with
  | true => exact iteT (k rfl H' e _ fun H2 e2 => q H2 (e.trans e2))
  | false => exact iteF (q H' e)⟩
theorem Ev.orV {t u : TE} {σ : L2.St} {H : Hp} {a b : Bool} (h : Ev t σ H (.bl a)) (k : a = false → ∀ H', Same H H' → Ev u σ H' (.bl b)) : Ev (tOrV t u) σ H (.bl (a || b)) := fun Q q => h _ fun H' e => ⟨a, rfl, by
  cases a with
  | true => exact iteT (q H' e)
  | false => exact iteF (k rfl H' e _ fun H2 e2 => q H2 (e.trans e2))⟩
/-- a heap without one object -/
def hide (H : Hp) (D : Addr) : Hp := fun b => if b = D then none else H b
theorem hide_ne {H : Hp} {D b : Addr} (h : b ≠ D) : hide H D b = H b := if_neg h
theorem hide_at {H : Hp} {D : Addr} : hide H D D = none := if_pos rfl
theorem same_hide {H H' : Hp} {D : Addr} (e : Same H H') (h : H D = none) : Same H (hide H' D) := fun b o q => by
  rw [hide_ne (ne_of_none q h)]
  exact e b o q
theorem hide_same {H : Hp} {D : Addr} : Same (hide H D) H := fun b o q => by
  by_cases h : b = D
  · subst h
    rw [hide_at] at q
    cases q
  · rw [hide_ne h] at q
    exact q
theorem hide_upd {H : Hp} {D : Addr} {o : HO} : Same (hide H D) (upd H D o) := fun b u q => by
  by_cases h : b = D
  · subst h
    rw [hide_at] at q
    cases q
  · rw [hide_ne h] at q
    rw [upd_ne h]
    exact q
theorem hide_mono {H H' : Hp} {D : Addr} (e : Same H H') : Same (hide H D) (hide H' D) := fun b u q => by
  by_cases h : b = D
  · subst h
    rw [hide_at] at q
    cases q
  · rw [hide_ne h] at q ⊢
    exact e b u q
/-- a comprehension without tests over a walk: what R says of each item made -/
theorem lc_name {J : It} {n : Nat} {G : Hp → Prop} {Y : Nat → Hp → V → Hp → Prop} (w : Walk J n G Y) {te : TE} {j : Nat} {vs : List Nat} {σ : L2.St} {H1 : Hp} {D : Addr} {Qd : Hp → Prop} (R : Nat → V → Hp → Prop)
    (hm : ∀ i y H H', Same H H' → R i y H → R i y H') (hD : H1 D = none) (hn : n < 100000) (hG : ∀ H, Same H1 H → G H) (hw : ∀ x, wipe ((wipe σ vs).set j (some x)) vs = wipe σ vs)
    (hs : ∀ i x H H', i < n → Same H1 H → Y i H x H' → Same H H' ∧ ∀ Q : VK, (∀ y H4, Same H' H4 → R i y (hide H4 D) → Q y H4) → te ((wipe σ vs).set j (some x)) H' Q)
    (hd : ∀ ys H, ys.length = n → (∀ i y, ys[i]? = some y → R i y (hide H D)) → Same H1 H → H D = some (.lst ys) → Qd H) : ∃ W : Nat → Nat → Hp → Prop, (∃ m, W 0 m (upd H1 D (.lst []))) ∧ ∀ i m H, W i m H →
      (J.stop i H ∧ Qd H) ∨ (J.go i H ∧ ∃ Nx : Hp → Prop, (∀ H', Nx H' → ∃ m', m' < m ∧ W (i + 1) m' H') ∧ ∀ x H', J.yld i H x H' → gName j x (wipe σ vs) H' fun σ2 H2 => wipe σ2 vs = wipe σ vs ∧ tYes σ2 H2 fun b H3 => if b = true then te σ2 H3 fun y H4 => ∃ acc, H4 D = some (.lst acc) ∧ acc.length < sizeLine ∧ Nx (upd H4 D (.lst (acc ++ [y]))) else Nx H3) := by
  refine lc_it w (fun i H => Same H1 H ∧ ∃ acc, H D = some (.lst acc) ∧ acc.length = i ∧ ∀ k y, acc[k]? = some y → R k y (hide H D)) ⟨same_upd hD, [], upd_same, rfl, fun k y e => by simp at e⟩ (fun i H _ p => hG H p.1) (fun i x H H' hi p y => ?_) (fun H p => ?_)
  · obtain ⟨s1, acc, ha, hl, hr⟩ := p
    obtain ⟨s2, k⟩ := hs i x H H' hi s1 y
    refine ⟨hw x, ?_⟩
    show te ((wipe σ vs).set j (some x)) H' _
    refine (k _ fun y H4 s3 r => ⟨acc, s3 _ _ (s2 _ _ ha), szl (by omega), Same.mut ((s1.trans s2).trans s3) hD, acc ++ [y], upd_same, by rw [List.length_append, List.length_singleton, hl], fun k z e => ?_⟩)
    have key : hide (upd H4 D (.lst (acc ++ [y]))) D = hide H4 D := by
      funext b
      unfold hide
      by_cases h : b = D
      · rw [if_pos h, if_pos h]
      · rw [if_neg h, if_neg h, upd_ne h]
    rw [key]
    by_cases h : k < acc.length
    · rw [List.getElem?_append_left h] at e
      exact hm k z _ _ (hide_mono (s2.trans s3)) (hr k z e)
    · rw [List.getElem?_append_right (by omega)] at e
      have h0 : k - acc.length = 0 := by
        rcases Nat.eq_zero_or_pos (k - acc.length) with q | q
        · exact q
        · have q2 : ([y] : List V).length ≤ k - acc.length := by
            show 1 ≤ _
            omega
          rw [List.getElem?_eq_none_iff.mpr q2] at e
          cases e
      rw [h0] at e
      have hk : k = i := by omega
      subst hk
      cases e
      exact r
  · obtain ⟨s1, acc, ha, hl, hr⟩ := p
    exact hd acc H hl hr s1 ha
/-- the same, the items told -/
theorem lc_vals {J : It} {n : Nat} {G : Hp → Prop} {Y : Nat → Hp → V → Hp → Prop} (w : Walk J n G Y) {te : TE} {j : Nat} {vs : List Nat} {σ : L2.St} {H1 : Hp} {D : Addr} {Qd : Hp → Prop} (f : Nat → V)
    (hD : H1 D = none) (hn : n < 100000) (hG : ∀ H, Same H1 H → G H) (hw : ∀ x, wipe ((wipe σ vs).set j (some x)) vs = wipe σ vs)
    (hs : ∀ i x H H', i < n → Same H1 H → Y i H x H' → Same H H' ∧ Ev te ((wipe σ vs).set j (some x)) H' (f i))
    (hd : ∀ H, Same H1 H → H D = some (.lst ((List.range n).map f)) → Qd H) : ∃ W : Nat → Nat → Hp → Prop, (∃ m, W 0 m (upd H1 D (.lst []))) ∧ ∀ i m H, W i m H →
      (J.stop i H ∧ Qd H) ∨ (J.go i H ∧ ∃ Nx : Hp → Prop, (∀ H', Nx H' → ∃ m', m' < m ∧ W (i + 1) m' H') ∧ ∀ x H', J.yld i H x H' → gName j x (wipe σ vs) H' fun σ2 H2 => wipe σ2 vs = wipe σ vs ∧ tYes σ2 H2 fun b H3 => if b = true then te σ2 H3 fun y H4 => ∃ acc, H4 D = some (.lst acc) ∧ acc.length < sizeLine ∧ Nx (upd H4 D (.lst (acc ++ [y]))) else Nx H3) := by
  refine lc_name w (fun i y _ => y = f i) (fun _ _ _ _ _ h => h) hD hn hG hw (fun i x H H' hi s y => ?_) (fun ys H hl hr s h => hd H s ?_)
  · obtain ⟨a, b⟩ := hs i x H H' hi s y
    exact ⟨a, fun Q q => b Q fun H4 s4 => q _ _ s4 rfl⟩
  · rw [h]
    congr 2
    refine List.ext_getElem? fun i => ?_
    rw [List.getElem?_map]
    by_cases hi : i < n
    · have h1 : i < ys.length := by omega
      rw [List.getElem?_eq_getElem h1, List.getElem?_range hi]
      show some _ = some (f i)
      rw [hr i ys[i] (List.getElem?_eq_getElem h1)]
    · rw [List.getElem?_eq_none_iff.mpr (by omega), List.getElem?_eq_none_iff.mpr (by rw [List.length_range]; omega)]
      rfl
theorem map_bls (n : Nat) (f : Nat → Bool) : (List.range n).map (fun i => V.bl (f i)) = ((List.range n).map f).map V.bl := by
  rw [List.map_map]
  rfl
theorem all_true (n : Nat) : ((List.range n).map fun _ => true).all id = true := by
  rw [List.all_eq_true]
  intro x h
  obtain ⟨_, _, e⟩ := List.mem_map.mp h
  exact e.symm
section
variable {K : PySem.W.Frag} {σ : L2.St} {H : Hp} {ta tb : TE}
theorem ev_isi {T : String} {x : V} {t : Value} {b : Bool} (ha : Ev ta σ H x) (hty : ∀ H', Same H H' → TyX K H' x t) (hk : PySem.W.kitOne K t (.type T) = some b) : Ev (tCB (rIsi K) (tCons ta (tCons (tC (.ty T)) tNil))) σ H (.bl b) :=
  fun Q q => ha _ fun H' e => ⟨x, .ty T, t, .type T, b, rfl, .ty T, hty H' e, hk, q H' e⟩
theorem ev_isTup {a : Addr} {xs : List V} (ha : Ev ta σ H (.ref a)) (h : H a = some (.tup xs)) : Ev (tCB (rIsi K) (tCons ta (tCons (tC (.ty "tuple")) tNil))) σ H (.bl true) :=
  ev_isi ha (fun H' e => .base (.tup (e _ _ h))) (kit_ty (by decide +kernel))
theorem ev_isDict {a : Addr} {xs : List (Key × V)} (ha : Ev ta σ H (.ref a)) (h : H a = some (.dK xs)) : Ev (tCB (rIsi K) (tCons ta (tCons (tC (.ty "dict")) tNil))) σ H (.bl true) :=
  ev_isi ha (fun H' e => .base (.dK (e _ _ h))) (kit_ty (by decide +kernel))
theorem ev_isStr {z : Str} (ha : Ev ta σ H (.str z)) : Ev (tCB (rIsi K) (tCons ta (tCons (tC (.ty "str")) tNil))) σ H (.bl true) :=
  ev_isi ha (fun H' e => .base (.str z)) (kit_ty (by decide +kernel))
/-- len of a tuple, of a list -/
def rLen (K : PySem.W.Frag) : List V → Hp → VK → Prop := fun xs H Q => ∃ p ys, xs = [V.ref p] ∧ (SqL K H p ys ∨ SqT K H p ys) ∧ Q (.int ys.length) H
theorem ev_lenT {a : Addr} {xs : List V} (ha : Ev ta σ H (.ref a)) (h : H a = some (.tup xs)) : Ev (tCB (rLen K) (tCons ta tNil)) σ H (.int (xs.length : Int)) :=
  fun Q q => ha _ fun H' e => ⟨a, xs, rfl, .inr (SqT.of (e _ _ h)), q H' e⟩
theorem ev_lenL {a : Addr} {xs : List V} (ha : Ev ta σ H (.ref a)) (h : H a = some (.lst xs)) : Ev (tCB (rLen K) (tCons ta tNil)) σ H (.int (xs.length : Int)) :=
  fun Q q => ha _ fun H' e => ⟨a, xs, rfl, .inl (SqL.of (e _ _ h)), q H' e⟩
def rLenD : List V → Hp → VK → Prop := fun xs H Q => ∃ a kvs, xs = [V.ref a] ∧ H a = some (.dK kvs) ∧ Q (.int (kvs.length : Nat)) H
theorem ev_lenD {a : Addr} {xs : List (Key × V)} (ha : Ev ta σ H (.ref a)) (h : H a = some (.dK xs)) : Ev (tCB rLenD (tCons ta tNil)) σ H (.int (xs.length : Nat)) :=
  fun Q q => ha _ fun H' e => ⟨a, xs, rfl, e _ _ h, q H' e⟩
theorem ev_eq {x y : V} (ha : Ev ta σ H x) (hb : ∀ H', Same H H' → Ev tb σ H' y) (hs : scal x y = true) : Ev (tOp rEq ta tb) σ H (.bl (decide (x = y))) :=
  fun Q q => ha _ fun H' e => hb H' e _ fun H2 e2 => ⟨hs, q H2 (e.trans e2)⟩
theorem ev_ne {x y : V} (ha : Ev ta σ H x) (hb : ∀ H', Same H H' → Ev tb σ H' y) (hs : scal x y = true) : Ev (tOp rNe ta tb) σ H (.bl (!decide (x = y))) :=
  fun Q q => ha _ fun H' e => hb H' e _ fun H2 e2 => ⟨hs, q H2 (e.trans e2)⟩
theorem ev_I0 {g : Int → Int → V} {i j : Int} (ha : Ev ta σ H (.int i)) (hb : ∀ H', Same H H' → Ev tb σ H' (.int j)) : Ev (tOp (rI0 g) ta tb) σ H (g i j) :=
  fun Q q => ha _ fun H' e => hb H' e _ fun H2 e2 => ⟨i, j, rfl, rfl, q H2 (e.trans e2)⟩
theorem ev_I {C : Int → Int → Prop} {g : Int → Int → V} {i j : Int} (ha : Ev ta σ H (.int i)) (hb : ∀ H', Same H H' → Ev tb σ H' (.int j)) (hc : C i j) : Ev (tOp (rI C g) ta tb) σ H (g i j) :=
  fun Q q => ha _ fun H' e => hb H' e _ fun H2 e2 => ⟨i, j, rfl, rfl, hc, q H2 (e.trans e2)⟩
/-- k in d -/
theorem ev_inD {a : Addr} {kvs : List (Key × V)} {k : Key} (ha : Ev ta σ H (kV k)) (hb : ∀ H', Same H H' → Ev tb σ H' (.ref a)) (h : H a = some (.dK kvs)) : Ev (tDIn ta tb) σ H (.bl (valV kvs k).isSome) :=
  fun Q q => ha _ fun H' e => hb H' e _ fun H2 e2 => ⟨a, valV kvs k, rfl, DGet.k (k := k) ((e.trans e2) _ _ h), q H2 (e.trans e2)⟩
theorem ev_notInD {a : Addr} {kvs : List (Key × V)} {k : Key} (ha : Ev ta σ H (kV k)) (hb : ∀ H', Same H H' → Ev tb σ H' (.ref a)) (h : H a = some (.dK kvs)) : Ev (tDNotIn ta tb) σ H (.bl (!(valV kvs k).isSome)) :=
  fun Q q => ha _ fun H' e => hb H' e _ fun H2 e2 => ⟨a, valV kvs k, rfl, DGet.k (k := k) ((e.trans e2) _ _ h), q H2 (e.trans e2)⟩
theorem ev_dget {a : Addr} {kvs : List (Key × V)} {k : Key} {v : V} (ha : Ev ta σ H (.ref a)) (hb : ∀ H', Same H H' → Ev tb σ H' (kV k)) (h : H a = some (.dK kvs)) (hv : valV kvs k = some v) : Ev (tDGet ta tb) σ H v :=
  fun Q q => ha _ fun H' e => hb H' e _ fun H2 e2 => ⟨a, v, rfl, by have z := DGet.k (k := k) ((e.trans e2) _ _ h); rw [hv] at z; exact z, q H2 (e.trans e2)⟩
/-- all([..]) -/
theorem ev_all {bs : List Bool} {tl : TE} (h : ∀ Q : VK, (∀ p H', Same H H' → H' p = some (.lst (bs.map V.bl)) → Q (.ref p) H') → tl σ H Q) : Ev (tCB (rAll K) (tCons tl tNil)) σ H (.bl (bs.all id)) :=
  fun Q q => h _ fun p H' e hp => ⟨p, bs, rfl, SqL.of hp, q H' e⟩
end
/-- an if that is not taken -/
theorem if_no {tt : TT} {t u : TS} {D : Ends} {σ : L2.St} {H : Hp} (h : EvB tt σ H false) (k : ∀ H', Same H H' → u D σ H') : tIfS tt t u D σ H := h _ fun H' e => iteF (k H' e)
theorem if_yes {tt : TT} {t u : TS} {D : Ends} {σ : L2.St} {H : Hp} (h : EvB tt σ H true) (k : ∀ H', Same H H' → t D σ H') : tIfS tt t u D σ H := h _ fun H' e => iteT (k H' e)
/-- if t: .. (not taken); the rest -/
theorem q_no {tt : TT} {t u : TS} {D : Ends} {σ : L2.St} {H : Hp} (h : EvB tt σ H false) (k : ∀ H', Same H H' → u D σ H') : tSeq (tIfS tt t tNext) u D σ H := h _ fun H' e => iteF (k H' e)
theorem q_asg {te : TE} {u : TS} {D : Ends} {σ : L2.St} {H : Hp} {i : Nat} {v : V} (h : Ev te σ H v) (k : ∀ H', Same H H' → u D (σ.set i (some v)) H') : tSeq (tAsg te (gName i)) u D σ H := h _ fun H' e => k H' e
theorem q_drop {te : TE} {u : TS} {D : Ends} {σ : L2.St} {H : Hp} {v : V} (h : Ev te σ H v) (k : ∀ H', Same H H' → u D σ H') : tSeq (tDrop te) u D σ H := h _ fun H' e => k H' e
theorem q_unpack2 {K : PySem.W.Frag} {ta : TE} {n i j : Nat} {u : TS} {D : Ends} {σ : L2.St} {H : Hp} {a : Addr} {v1 v2 : V} (h : Ev ta σ H (.ref a)) (ha : H a = some (.tup [v1, v2])) (k : ∀ H', Same H H' → u D ((σ.set i (some v1)).set j (some v2)) H') (hn : n = 2 := by rfl) :
    tSeq (tAsg ta (gTup K n (gCons (gName i) (gCons (gName j) gNil)))) u D σ H := h _ fun H' e => ⟨a, [v1, v2], rfl, SqT.of (e _ _ ha), hn.symm, v1, [v2], rfl, v2, [], rfl, rfl, k H' e⟩
theorem s_ret {te : TE} {D : Ends} {σ : L2.St} {H : Hp} {v : V} (h : Ev te σ H v) (k : ∀ H', Same H H' → D.rt v H') : tRet te D σ H := h _ fun H' e => k H' e
theorem evb_is {tt : TT} {σ : L2.St} {H : Hp} {a b : Bool} (h : EvB tt σ H a) (e : a = b) : EvB tt σ H b := e ▸ h
theorem ev_is {te : TE} {σ : L2.St} {H : Hp} {a b : V} (h : Ev te σ H a) (e : a = b) : Ev te σ H b := e ▸ h
end Bc
namespace Bc
open PySem L2
def EvA (ta : TA) (σ : L2.St) (H : Hp) (vs : List V) : Prop := ∀ Q : List V → Hp → Prop, (∀ H', Same H H' → Q vs H') → ta σ H Q
theorem ea_nil {σ : L2.St} {H : Hp} : EvA tNil σ H [] := fun Q q => q H (Same.refl H)
theorem ea_cons {te : TE} {tr : TA} {σ : L2.St} {H : Hp} {v : V} {vs : List V} (h : Ev te σ H v) (k : ∀ H', Same H H' → EvA tr σ H' vs) : EvA (tCons te tr) σ H (v :: vs) := fun Q q => h _ fun H' e => k H' e _ fun H2 e2 => q H2 (e.trans e2)
theorem ev_call {sp : Sp} {E : XK} {t : TA} {σ : L2.St} {H : Hp} {vs : List V} {v : V} (h : EvA t σ H vs) (k : ∀ H', Same H H' → ∀ Q : VK, (∀ H2, Same H' H2 → Q v H2) → sp (vs ++ []) H' Q E) : Ev (tCall sp [] E t) σ H v := fun Q q =>
  h _ fun H' e => k H' e Q fun H2 e2 => q H2 (e.trans e2)
end Bc

namespace Bc
open PySem L2
theorem s_dput {td ty tv : TE} {D : Ends} {σ : L2.St} {H : Hp} {a : Addr} {kvs : List (Key × V)} {k : Key} {v : V} (hv : Ev tv σ H v) (hd : ∀ H', Same H H' → Ev td σ H' (.ref a)) (hk : ∀ H', Same H H' → Ev ty σ H' (kV k)) (h : H a = some (.dK kvs)) (hl : kvs.length < 100000)
    (q : ∀ H', Same H H' → D.nx σ (upd H' a (.dK (putK kvs k v)))) : sDPut td ty tv D σ H :=
  hv _ fun H1 e1 => hd H1 e1 _ fun H2 e2 => hk H2 (e1.trans e2) _ fun H3 e3 => ⟨a, _, rfl, DPut.k ((e1.trans (e2.trans e3)) _ _ h) (szl hl), q H3 (e1.trans (e2.trans e3))⟩
theorem q_dput {td ty tv : TE} {u : TS} {D : Ends} {σ : L2.St} {H : Hp} {a : Addr} {kvs : List (Key × V)} {k : Key} {v : V} (hv : Ev tv σ H v) (hd : ∀ H', Same H H' → Ev td σ H' (.ref a)) (hk : ∀ H', Same H H' → Ev ty σ H' (kV k)) (h : H a = some (.dK kvs)) (hl : kvs.length < 100000)
    (q : ∀ H', Same H H' → u D σ (upd H' a (.dK (putK kvs k v)))) : tSeq (sDPut td ty tv) u D σ H := s_dput (D := { D with nx := u D }) hv hd hk h hl q
/-- {} -/
theorem q_dnew {u : TS} {D : Ends} {σ : L2.St} {H : Hp} {i : Nat} (k : ∀ p, H p = none → u D (σ.set i (some (.ref p))) (upd H p (.dK []))) : tSeq (tAsg tDNewK (gName i)) u D σ H := fun p hp => k p hp
/-- a for over a tracked list that stays -/
theorem s_forL {K : PySem.W.Frag} {tl : TE} {j : Nat} {tb : TS} {D : Ends} {σ : L2.St} {H : Hp} {a : Addr} {xs : List V} (h : Ev tl σ H (.ref a)) (hx : H a = some (.lst xs)) (Pv : Nat → L2.St → Hp → Prop) (h0 : ∀ H', Same H H' → Pv 0 σ H')
    (hG : ∀ i σ' H', i ≤ xs.length → Pv i σ' H' → SqL K H' a xs) (hs : ∀ i x σ' H', xs[i]? = some x → Pv i σ' H' → tb { D with nx := Pv (i + 1), ct := Pv (i + 1), bk := D.nx } (σ'.set j (some x)) H') (hd : ∀ σ' H', Pv xs.length σ' H' → D.nx σ' H') :
    tFor (iList K tl) (gName j) tb D σ H := h _ fun H1 e1 => ⟨a, rfl, ⟨xs, SqL.of (e1 _ _ hx)⟩, for_it (walk_list (K := K) (a := a) (xs := xs)) Pv (h0 H1 e1) hG (fun i x σ' H2 H3 hi p y => by
      obtain ⟨rfl, hy⟩ := y
      exact hs i x σ' _ hy p) hd⟩
theorem q_forL {K : PySem.W.Frag} {tl : TE} {j : Nat} {tb u : TS} {D : Ends} {σ : L2.St} {H : Hp} {a : Addr} {xs : List V} (h : Ev tl σ H (.ref a)) (hx : H a = some (.lst xs)) (Pv : Nat → L2.St → Hp → Prop) (h0 : ∀ H', Same H H' → Pv 0 σ H')
    (hG : ∀ i σ' H', i ≤ xs.length → Pv i σ' H' → SqL K H' a xs) (hs : ∀ i x σ' H', xs[i]? = some x → Pv i σ' H' → tb { D with nx := Pv (i + 1), ct := Pv (i + 1), bk := u D } (σ'.set j (some x)) H') (hd : ∀ σ' H', Pv xs.length σ' H' → u D σ' H') :
    tSeq (tFor (iList K tl) (gName j) tb) u D σ H := s_forL (D := { D with nx := u D }) h hx Pv h0 hG hs hd
/-- an if without else, not taken, at the end of a block -/
theorem s_no {tt : TT} {t : TS} {D : Ends} {σ : L2.St} {H : Hp} (h : EvB tt σ H false) (k : ∀ H', Same H H' → D.nx σ H') : tIfS tt t tNext D σ H := h _ fun H' e => iteF (k H' e)
theorem ev_lenS {σ : L2.St} {H : Hp} {ta : TE} {z : Str} (ha : Ev ta σ H (.str z)) (hz : z.length ≤ 100000) : Ev (tCB (fun xs H Q => ∃ z : Str, xs = [V.str z] ∧ z.length ≤ sizeLine ∧ Q (.int z.length) H) (tCons ta tNil)) σ H (.int (z.length : Nat)) :=
  fun Q q => ha _ fun H' e => ⟨z, rfl, sz hz, q H' e⟩
theorem ev_chain {ta tb tc : TE} {σ : L2.St} {H : Hp} {g g' : Int → Int → Bool} {i j k : Int} (ha : Ev ta σ H (.int i)) (hb : ∀ H', Same H H' → Ev tb σ H' (.int j)) (hc : ∀ H', Same H H' → Ev tc σ H' (.int k)) :
    Ev (tChain (rI0 fun i j => .bl (g i j)) (rI0 fun i j => .bl (g' i j)) ta tb tc) σ H (.bl (g i j && g' j k)) := fun Q q => ha _ fun H1 e1 => hb H1 e1 _ fun H2 e2 => ⟨i, j, rfl, rfl, g i j, rfl, by
  cases hg : g i j with
  | true => exact iteT (hc H2 (e1.trans e2) _ fun H3 e3 => ⟨j, k, rfl, rfl, by have z := q H3 (e1.trans (e2.trans e3)); rw [hg] at z; exact z⟩)
  | false => exact iteF (by have z := q H2 (e1.trans e2); rw [hg] at z; exact z)⟩
theorem ev_ixS {ta tb : TE} {σ : L2.St} {H : Hp} {z : Str} {i : Nat} {c : Nat} (ha : Ev ta σ H (.str z)) (hb : ∀ H', Same H H' → Ev tb σ H' (.int (i : Nat))) (hz : z.length ≤ 100000) (hc : z.cps.toList[i]? = some c) : Ev (tOp rIxS ta tb) σ H (.str ⟨#[c]⟩) := fun Q q =>
  ha _ fun H1 e1 => hb H1 e1 _ fun H2 e2 => ⟨z, i, c, rfl, rfl, sz hz, atI_nat hc, q H2 (e1.trans e2)⟩
theorem ev_signIn {ta tb : TE} {σ : L2.St} {H : Hp} {z : Str} {c : Nat} (ha : Ev ta σ H (.str ⟨#[c]⟩)) (hb : ∀ H', Same H H' → Ev tb σ H' (.str z)) : Ev (tOp (fun x y H Q => ∃ (c : Nat) (z : Str), x = .str ⟨#[c]⟩ ∧ y = .str z ∧ Q (.bl (decide (c ∈ z.cps.toList))) H) ta tb) σ H (.bl (decide (c ∈ z.cps.toList))) :=
  fun Q q => ha _ fun H1 e1 => hb H1 e1 _ fun H2 e2 => ⟨c, z, rfl, rfl, q H2 (e1.trans e2)⟩
theorem ev_signNot {ta tb : TE} {σ : L2.St} {H : Hp} {z : Str} {c : Nat} (ha : Ev ta σ H (.str ⟨#[c]⟩)) (hb : ∀ H', Same H H' → Ev tb σ H' (.str z)) : Ev (tOp (fun x y H Q => ∃ (c : Nat) (z : Str), x = .str ⟨#[c]⟩ ∧ y = .str z ∧ Q (.bl (!decide (c ∈ z.cps.toList))) H) ta tb) σ H (.bl (!decide (c ∈ z.cps.toList))) :=
  fun Q q => ha _ fun H1 e1 => hb H1 e1 _ fun H2 e2 => ⟨c, z, rfl, rfl, q H2 (e1.trans e2)⟩
end Bc

namespace Bc
open PySem L2
/-- where everything stands -/
structure Ad where
  (init pb len has eq leaders met kinds names isName rows areRows isRow isDrop inlets chMet draw lKnots lInlets isNum chNet isSt chSt short least isTidy tidied tidSt alike goes pad refd law cNet cBad badInit cellBad codeBad cStd : Addr)
  (dInit dPB dLen dHas dEq dLeaders dMet dKinds dNames dIsName dRows dAreRows dIsRow dIsDrop dInlets dChMet dDraw dLKnots dLInlets dIsNum dChNet dIsSt dChSt dShort dLeast dIsTidy dTidied dTidSt dAlike dGoes dPad dRefd dLaw : FuncData) (fileBad : Str)
/-- no builtin's name is told anew; the constants -/
structure Tx (K : PySem.W.Frag) (mg : Str → Option Value) (a : Ad) : Prop where
  isinstance : mg "isinstance" = none
  len : mg "len" = none
  all : mg "all" = none
  sorted : mg "sorted" = none
  list : mg "list" = none
  tuple : mg "tuple" = none
  dict : mg "dict" = none
  str : mg "str" = none
  int : mg "int" = none
  range : mg "range" = none
  enumerate : mg "enumerate" = none
  any : mg "any" = none
  bool : mg "bool" = none
  mKnots : ∃ t, mg "MOST_KNOTS" = some (.int 12 t)
  mDrops : ∃ t, mg "MOST_DROPS" = some (.int 12 t)
  mTargets : ∃ t, mg "MOST_TARGETS" = some (.int 4 t)
  mSigns : ∃ t, mg "MOST_SIGNS" = some (.int 16 t)
  letters : ∃ t, mg "LETTERS" = some (.str "abcdefghijklmnopqrstuvwxyz" t)
  signs : ∃ t, mg "SIGNS" = some (.str "abcdefghijklmnopqrstuvwxyz0123456789." t)
  gLeaders : mg "leaders" = some (.ref a.leaders)
  fLeaders : Fun K "leaders" "leaders" sLeaders a.leaders a.dLeaders
  gMet : mg "met_by_turn" = some (.ref a.met)
  fMet : Fun K "met_by_turn" "met_by_turn" sMet a.met a.dMet
  gKinds : mg "check_kinds" = some (.ref a.kinds)
  fKinds : Fun K "check_kinds" "check_kinds" sKinds a.kinds a.dKinds
  gNames : mg "check_names" = some (.ref a.names)
  fNames : Fun K "check_names" "check_names" sNames a.names a.dNames
  gIsName : mg "is_name" = some (.ref a.isName)
  fIsName : Fun K "is_name" "is_name" sIsName a.isName a.dIsName
  gRows : mg "check_rows" = some (.ref a.rows)
  fRows : Fun K "check_rows" "check_rows" sRows a.rows a.dRows
  gAreRows : mg "are_rows" = some (.ref a.areRows)
  fAreRows : Fun K "are_rows" "are_rows" sAreRows a.areRows a.dAreRows
  gIsRow : mg "is_row" = some (.ref a.isRow)
  fIsRow : Fun K "is_row" "is_row" sIsRow a.isRow a.dIsRow
  gIsDrop : mg "is_drop" = some (.ref a.isDrop)
  fIsDrop : Fun K "is_drop" "is_drop" sIsDrop a.isDrop a.dIsDrop
  gInlets : mg "check_inlets" = some (.ref a.inlets)
  fInlets : Fun K "check_inlets" "check_inlets" sInlets a.inlets a.dInlets
  gChMet : mg "check_met" = some (.ref a.chMet)
  fChMet : Fun K "check_met" "check_met" sChMet a.chMet a.dChMet
  gDraw : mg "_law_draw" = some (.ref a.draw)
  fDraw : Fun K "_law_draw" "_law_draw" sDraw a.draw a.dDraw
  gLKnots : mg "_law_knots" = some (.ref a.lKnots)
  fLKnots : Fun K "_law_knots" "_law_knots" sLKnots a.lKnots a.dLKnots
  gLInlets : mg "_law_inlets" = some (.ref a.lInlets)
  fLInlets : Fun K "_law_inlets" "_law_inlets" sLInlets a.lInlets a.dLInlets
  gIsNum : mg "is_number" = some (.ref a.isNum)
  fIsNum : Fun K "is_number" "is_number" sIsNum a.isNum a.dIsNum
  gChNet : mg "check_net" = some (.ref a.chNet)
  fChNet : Fun K "check_net" "check_net" sChNet a.chNet a.dChNet
  gIsSt : mg "is_standing" = some (.ref a.isSt)
  fIsSt : Fun K "is_standing" "is_standing" sIsSt a.isSt a.dIsSt
  gChSt : mg "check_standing" = some (.ref a.chSt)
  fChSt : Fun K "check_standing" "check_standing" sChSt a.chSt a.dChSt
  gShort : mg "shortest_rows" = some (.ref a.short)
  fShort : Fun K "shortest_rows" "shortest_rows" sShort a.short a.dShort
  gLeast : mg "least_period" = some (.ref a.least)
  fLeast : Fun K "least_period" "least_period" sLeast a.least a.dLeast
  gIsTidy : mg "is_tidy" = some (.ref a.isTidy)
  fIsTidy : Fun K "is_tidy" "is_tidy" sIsTidy a.isTidy a.dIsTidy
  gTidied : mg "tidied" = some (.ref a.tidied)
  fTidied : Fun K "tidied" "tidied" sTidied a.tidied a.dTidied
  gTidSt : mg "tidied_standing" = some (.ref a.tidSt)
  fTidSt : Fun K "tidied_standing" "tidied_standing" sTidSt a.tidSt a.dTidSt
  gAlike : mg "alike_places" = some (.ref a.alike)
  fAlike : Fun K "alike_places" "alike_places" sAlike a.alike a.dAlike
  gGoes : mg "_law_goes_on" = some (.ref a.goes)
  fGoes : Fun K "_law_goes_on" "_law_goes_on" sGoes a.goes a.dGoes
  gPad : mg "_law_padded" = some (.ref a.pad)
  fPad : Fun K "_law_padded" "_law_padded" sPad a.pad a.dPad
  gRef : mg "_law_refused" = some (.ref a.refd)
  fRef : Fun K "_law_refused" "_law_refused" sRef a.refd a.dRefd
  gNet : mg "Net" = some (.ref a.cNet)
  cl : Cls K a.cNet
  fInit : Fun K "__init__" "Net.__init__" sInit a.init a.dInit
  fPB : Fun K "place_behind" "Net.place_behind" sPB a.pb a.dPB
  fLen : Fun K "__len__" "Net.__len__" sLen a.len a.dLen
  fHas : Fun K "__contains__" "Net.__contains__" sHas a.has a.dHas
  fEq : Fun K "__eq__" "Net.__eq__" sEq a.eq a.dEq
  mkN : Mk K a.cNet a.init
  mPB : Meth K a.cNet "place_behind" a.pb
  iLen : PySem.W.findIn K (.ref a.cNet) "__len__" = some (some (.ref a.len))
  iHas : PySem.W.findIn K (.ref a.cNet) "__contains__" = some (some (.ref a.has))
  iEq : PySem.W.findIn K (.ref a.cNet) "__eq__" = some (some (.ref a.eq))
  nKnots : NoAttr K a.cNet "knots"
  nInlets : NoAttr K a.cNet "inlets"
  nOutlets : NoAttr K a.cNet "outlets"
theorem b_isinstance : bootBuiltins "isinstance" = some (.builtin "isinstance") := by decide +kernel
theorem b_all : bootBuiltins "all" = some (.builtin "all") := by decide +kernel
theorem b_sorted : bootBuiltins "sorted" = some (.builtin "sorted") := by decide +kernel
theorem b_list : bootBuiltins "list" = some (.type "list") := by decide +kernel
theorem b_tuple : bootBuiltins "tuple" = some (.type "tuple") := by decide +kernel
theorem b_dict : bootBuiltins "dict" = some (.type "dict") := by decide +kernel
theorem b_str : bootBuiltins "str" = some (.type "str") := by decide +kernel
theorem b_int : bootBuiltins "int" = some (.type "int") := by decide +kernel
section
variable {X : Cx} {K : PySem.W.Frag} {a b : Expr} {ta tb : TE} {p pos : Pos}
/-- isinstance(a, T), T a built-in type -/
theorem pe_isi (hK : X.K = K) (hm : X.mg "isinstance" = none) (ha : PE X a ta) (hb : PE X b tb) (hg : Gl X "isinstance" := by rfl) (h1 : starEach (a :: b :: []) X.env = (false, eval a X.env) :: starEach (b :: []) X.env := by rfl) (h2 : starEach (b :: []) X.env = (false, eval b X.env) :: starEach [] X.env := by rfl)
    (hpl : (backTo pos (starEach (b :: []) X.env)).any (·.1) = false := by rfl) :
    PE X (.Call (.Name "isinstance" p) [a, b] [] pos) (tCB (rIsi K) (tCons ta (tCons tb tNil))) := by
  subst hK
  exact pe_callB (he := h1) (hpl := hpl) call_isi hg hm b_isinstance (pa_cons ha (pa_cons hb pa_nil h2) h1)
theorem pe_ty {n : Str} {T : String} (hm : X.mg n = none) (hv : bootBuiltins n = some (.type T)) (hg : Gl X n := by rfl) (hn : n ≠ "__name__" := by decide) (hd : (n == ("__debug__" : Str)) = false := by decide) : PE X (.Name n pos) (tC (.ty T)) := pe_bltn (v := .ty T) hg hm hv rfl hn hd
end
section
variable {P : Program} {w : World} {K : PySem.W.Frag} {mg : Str → Option Value} {base : Heap} {ad : Ad}
/-! ### is_drop -/
/-- the names a dict of targets holds -/
def Tgs (H : Hp) (t : Addr) (S : Str → Prop) : Prop := ∃ kvs, H t = some (.dK kvs) ∧ ∀ x, S x → ∃ v, valV kvs (.inr x) = some v
theorem Tgs.go {H H' : Hp} {t : Addr} {S : Str → Prop} (h : Tgs H t S) (e : Same H H') : Tgs H' t S := let ⟨k, h1, h2⟩ := h; ⟨k, e _ _ h1, h2⟩
def spDrop : Sp := fun vs H Q _ => ∃ (v : V) (t : Addr) (d : Drop) (S : Str → Prop), vs = [v, .ref t] ∧ Dt H v (dDrop d) ∧ d.length ≤ 4 ∧ Tgs H t S ∧ (∀ x ∈ d, S x) ∧ ∀ H', Same H H' → Q (.bl true) H'
theorem scDrop : FnScope ["told", "targets", "target"] ["told", "targets"] (defScope sIsDrop) := ⟨rfl, rfl, rfl, by decide +kernel, rfl, by decide +kernel, by decide +kernel⟩
theorem ok_drop (T : Tx K mg ad) : FnOk P w K mg base CX0 2 ad.isDrop ad.dIsDrop ["told", "targets"] spDrop := by
  refine T.fIsDrop.ok scDrop (fun vs H Q E h => ?_) (fun cdv A outer s H vs Q E hr h => ?_)
  · obtain ⟨v, t, d, S, rfl, _⟩ := h
    rfl
  · obtain ⟨v, t, d, S, rfl, hd, hl, ht, hs, k⟩ := h
    obtain ⟨tT, gT⟩ := T.mTargets
    refine ⟨_, pss_cons (ps_if (PW.pt (pw_or (pt_not (pt_val (pe_isi rfl T.isinstance (pv 0) (pe_ty T.tuple b_tuple))))
        (pw_or1 (pt_cmpR op_gt (pe_callB call_len_seq (by rfl) T.len PySem.boot_len (pa_cons (pv 0) pa_nil)) (pe_glob (v := .int 4) (by rfl) gT ⟨_, rfl⟩) (nomark _))))) (pss_one (ps_ret pe_bl)) pss_nil)
      (pss_one (ps_ret (pe_callB (cr_all rfl) (by rfl) T.all b_all (pa_cons (pe_lc (own := [("target", 2)]) (g := gName 2) (tt := tYes) rfl scDrop.nd (pi_tup (pv 0)) (blkOk_by (N := ["told", "targets", "target"]) (sc := defScope sIsDrop) (by decide +kernel))
        (fun _ _ _ _ _ => pg_name (i := 2) scDrop.nd rfl (Or.inl rfl)) (fun _ _ _ _ _ => pts_nil) (fun _ _ _ _ _ => pe_and (pe_isi (K := K) rfl T.isinstance (pv 2) (pe_ty T.str b_str))
          (pe_one (pe_cmp (pc_din (hu_of hr) (pv 2) (pv 1)) rfl)))) pa_nil)))), ?_⟩
    cases hd with
    | @tup a xs _ ha hx =>
    have ex := Dts.of_strs hx
    subst ex
    obtain ⟨kvs, hkv, hin⟩ := ht
    refine q_no (evb_is (EvB.or (EvB.not (EvB.of (ev_isTup (ev_tv rfl) ha))) fun _ H1 e1 => EvB.of' (ev_I0 (ev_lenT (ev_tv rfl) (e1 _ _ ha)) fun _ _ => ev_tc)) ?_) fun H1 e1 => ?_
    · show (!true || decide (4 < ((d.map V.str).length : Int))) = false
      rw [List.length_map]
      simp
      omega
    · refine s_ret (ev_is (ev_all (bs := (List.range (d.map V.str).length).map fun _ => true) fun Q1 q1 => ?_) (by rw [all_true])) fun H' e => k H' (e1.trans e)
      refine ⟨_, rfl, a, rfl, ⟨_, SqT.of (e1 _ _ ha)⟩, fun D hD => ?_⟩
      refine lc_vals (walk_tup (K := K) (a := a) (xs := d.map V.str)) (fun _ => .bl true) hD (by rw [List.length_map]; omega) (fun H2 e2 => SqT.of (e2 _ _ (e1 _ _ ha))) (fun x => rfl) (fun i x H2 H3 hi e2 hx => ?_) (fun H2 e2 hl => q1 D H2 e2 (by rw [hl, ← map_bls]))
      obtain ⟨rfl, hx⟩ := hx
      rw [List.getElem?_map] at hx
      obtain ⟨z, hz, rfl⟩ := Option.map_eq_some_iff.mp hx
      obtain ⟨u, hu⟩ := hin z (hs z (List.mem_of_getElem? hz))
      refine ⟨Same.refl _, ev_is (Ev.andV (ev_isStr (ev_tv rfl)) fun _ H4 e4 => ev_inD (k := .inr z) (ev_tv rfl) (fun _ _ => ev_tv rfl) (e4 _ _ (e2 _ _ (e1 _ _ hkv)))) ?_⟩
      rw [hu]
      rfl
end
end Bc

/-! *d in a display, d a dict -/
namespace Bc
open PySem PySem.W PyProof.Rows
section
variable {s : Shared} {prog : Program} {w : World} {A : Around} {E : Value → Shared → Prop} {T : String} {r d : Addr} {n : Nat} {P : Nat → Value → Prop} {OK : Heap → Prop}
/-- the items of what is walked, collected -/
theorem collect_src (K : KdlSrc prog w T r d n P OK) {Q : List Value → Shared → Prop} (hh : A.handled = none) (hok : OK s.heap)
    (hQ : ∀ h' tk acc, (∀ b o, s.heap.get? b = some o → h'.get? b = some o) → ItemsOf P acc n → Q acc.toList { s with heap := h', toks := tk }) (hn : n ≤ sizeLine) : wpAny (model prog w) A (collect (.ref r)) Q E s := by
  unfold collect
  refine wpAny_bind (wpAny_runValue (codeAny_builtin F.entry_proto_collect ?_)); rw [Around.under_plainId F.plain_proto_collect _]
  show wpAny _ A.in1 (newList [] >>= fun l => again (.builtin "list.__iadd__" ⟨[l, .ref r], []⟩)) _ _ s; refine wpAny_bind (wpAny_newObj_type ?_)
  refine wpAny_pure ⟨plainId_quiet F.plain_list_iadd _, codeAny_builtin F.entry_list_iadd ?_⟩; rw [Around.under_plainId F.plain_list_iadd _]
  have hSz : (s.heap.push { cls := .type "list", data := .seq ([] : List Value).toArray }).get? s.heap.objs.size = some { cls := .type "list", data := .seq #[] 0 } := Heap.get?_push_size _ rfl
  have lt := K.there _ hok
  have fin' : ∀ s' : Shared, (∃ h' tk acc c', s' = { s with heap := h', toks := tk } ∧ (∀ b o, s.heap.get? b = some o → h'.get? b = some o) ∧ h'.get? s.heap.objs.size = some { cls := .type "list", dict := none, data := .seq acc c', slots := #[] } ∧ ItemsOf P acc n) →
      wpAny (model prog w) A (match Value.ref s.heap.objs.size with
      | Value.ref a => do
        match (← load a).data with
          | Data.seq ys _ => pure ys.toList | _ => unsupported "internal:collect"
      | _ => unsupported "internal:collect") Q E s' := by
    rintro s' ⟨h', tk, acc, c', rfl, hk, hS', hacc⟩
    show wpAny _ A (load s.heap.objs.size >>= _) _ _ _; refine wpAny_bind (wpAny_load hS' ?_)
    exact wpAny_pure (hQ h' tk acc hk hacc)
  refine wpAny_mono (kdl_extend (A := A) (R := fun r s' => r = .ok (.ret (.ref s.heap.objs.size)) ∧ ∃ h' tk acc c', s' = { s with heap := h', toks := tk } ∧ (∀ b o, s.heap.get? b = some o → h'.get? b = some o) ∧ h'.get? s.heap.objs.size = some { cls := .type "list", dict := none, data := .seq acc c', slots := #[] } ∧ ItemsOf P acc n)
    (s := { s with heap := s.heap.push { cls := .type "list", data := .seq ([] : List Value).toArray } }) K hh (K.keep _ _ hok fun b _ o e => Heap.get?_push_of_some _ e) s.heap.objs.size (Nat.ne_of_gt lt.1) (Nat.ne_of_gt lt.2) (.ref s.heap.objs.size) 0 hSz
    (fun h' tk acc' c' hk hS' hacc => ⟨rfl, h', tk, acc', c', rfl, fun b o e => hk b o (Nat.ne_of_lt (Heap.lt_size e)) (Heap.get?_push_of_some _ e), hS', hacc⟩) hn) (fun fin s' h => ?_) (fun e s' h => ?_)
  · cases fin with
    | done f =>
      obtain ⟨e, h⟩ := h
      cases e
      exact fin' s' h
    | again c' => exact ⟨h.1, codeAny_mono h.2 fun r s'' hr => by obtain ⟨rfl, hr⟩ := hr; exact fin' s'' hr⟩
  · exact absurd h.1 (by simp)
end
open L2
section
variable {X : Cx} {pz : List (Addr × Obj)} {σ : L2.St} {H : Hp} {s : Shared}
theorem star_dict {a : Addr} {kvs : List (Key × V)} {E : Value → Shared → Prop} {Q : List Value → Shared → Prop} (hc : X.calm = true) (I : Inv X pz σ H s) (h : Rd H a (.dK kvs))
    (hQ : ∀ uz s', Inv X pz σ H s' → Vals (kvs.map fun kv => kV kv.1) uz → Q uz s') : StarOf (model X.prog X.w) X.A E (.ref a) Q s := by
  obtain ⟨z, lo, vs, rel, dd⟩ := dk_rd I.hok h
  obtain ⟨ep, hat⟩ := dd.dictAt
  have ekz : (kvs.map fun kv => kV kv.1) = vs.map fun p => kV p.1 := by
    have e := congrArg (List.map kV) rel.keys; rw [List.map_map, List.map_map] at e
    exact e
  have hTz : s.TypeIs (.ref a) "dict" := dd.typeIs
  have zz : wpAny (model X.prog X.w) X.A (collect (.ref a)) Q E s := by
    refine collect_src (kdl_dict (knd := mixKind X.prog X.w) (kvs := vs) (ep := ep) lo) (I.ok.hd hc) hat (fun h' tk acc hk hacc => ?_) (by rw [← rel.length]; exact z)
    refine hQ acc.toList _ (I.kept (t' := tk) hk) ?_
    rw [ekz]
    exact keys_at (by rw [Array.length_toList]; exact hacc.1) fun j v e => hacc.2 j v (by rw [← Array.getElem?_toList]; exact e)
  unfold StarOf notIterableAtAll; exact wpAny_bind (wpAny_specialOf hTz PySem.F.slot_dict_iter.lookup (wpAny_pure ⟨rfl, zz⟩))
end
def tStarD (te : TE) (t : TA) : TA := fun σ H Q => te σ H fun x H1 => ∃ a kvs, x = V.ref a ∧ Rd H1 a (.dK kvs) ∧ t σ H1 fun ys H2 => Q ((kvs.map fun kv => kV kv.1) ++ ys) H2
section
variable {X : Cx} {e : Expr} {es : List Expr} {te : TE} {t : TA} {p : Pos}
theorem pa_starD (hc : X.calm = true) (he : PE X e te) (hr : PA X es t) (hs : starEach (.Starred e p :: es) X.env = (true, eval e X.env) :: starEach es X.env := by rfl) : PA X (.Starred e p :: es) (tStarD te t) := by
  refine ⟨fun pos pz s σ H Q I h => ?_⟩
  refine PySem.W.items_star (thn (he.run pz s σ H _ I h) fun v s1 ⟨y, H1, J1, ryz, a, kvs, ey, hx, q⟩ => ?_) hs
  subst ey
  obtain rfl : v = Value.ref a := ryz
  refine star_dict hc J1 hx fun uz s2 J2 rvz => ?_
  exact thn (hr.run pos pz s2 σ H1 _ J2 q) fun ws s3 ⟨vs, H3, J3, r3, q3⟩ => ⟨_, H3, J3, rvz.append r3, q3⟩
end
end Bc

namespace Bc
open PySem L2
section
variable {P : Program} {w : World} {K : PySem.W.Frag} {mg : Str → Option Value} {base : Heap} {ad : Ad}
/-! ### is_row -/
structure OkRow (S : Str → Prop) (r : Row) : Prop where
  len : r.length ≤ 12
  drops : ∀ d ∈ r, d.length ≤ 4 ∧ ∀ x ∈ d, S x
def spRow : Sp := fun vs H Q _ => ∃ (v : V) (t : Addr) (r : Row) (S : Str → Prop), vs = [v, .ref t] ∧ Dt H v (dRow r) ∧ Tgs H t S ∧ OkRow S r ∧ ∀ H', Same H H' → Q (.bl true) H'
theorem scRow : FnScope ["told", "targets", "drop"] ["told", "targets"] (defScope sIsRow) := ⟨rfl, rfl, rfl, by decide +kernel, rfl, by decide +kernel, by decide +kernel⟩
theorem ok_row (T : Tx K mg ad) : FnOk P w K mg base CX0 3 ad.isRow ad.dIsRow ["told", "targets"] spRow := by
  have GD : FnOk P w K mg base CX0 2 ad.isDrop ad.dIsDrop ["told", "targets"] spDrop := ok_drop T
  have bD := T.fIsDrop.binds (ps := ["told", "targets"]) fun _ _ _ _ _ _ us hl => match us, hl with | [_, _], _ => rfl
  refine T.fIsRow.ok scRow (fun vs H Q E h => ?_) (fun cdv A outer s H vs Q E hr h => ?_)
  · obtain ⟨v, t, d, S, rfl, _⟩ := h
    rfl
  · obtain ⟨v, t, r, S, rfl, hd, ht, ok, k⟩ := h
    obtain ⟨tT, gT⟩ := T.mDrops
    refine ⟨_, pss_cons (ps_if (PW.pt (pw_or (pt_not (pt_val (pe_isi rfl T.isinstance (pv 0) (pe_ty T.tuple b_tuple))))
        (pw_or1 (pt_cmpR op_gt (pe_callB call_len_seq (by rfl) T.len PySem.boot_len (pa_cons (pv 0) pa_nil)) (pe_glob (v := .int 12) (by rfl) gT ⟨_, rfl⟩) (nomark _))))) (pss_one (ps_ret pe_bl)) pss_nil)
      (pss_one (ps_ret (pe_callB (cr_all rfl) (by rfl) T.all b_all (pa_cons (pe_lc (own := [("drop", 2)]) (g := gName 2) (tt := tYes) rfl scRow.nd (pi_tup (pv 0)) (blkOk_by (N := ["told", "targets", "drop"]) (sc := defScope sIsRow) (by decide +kernel))
        (fun _ _ _ _ _ => pg_name (i := 2) scRow.nd rfl (Or.inl rfl)) (fun _ _ _ _ _ => pts_nil) (fun _ _ _ _ _ => pe_call GD hr (by rfl) T.gIsDrop T.fIsDrop.kp bD .nil pass0 (pa_cons (pv 2) (pa_cons (pv 1) pa_nil)))) pa_nil)))), ?_⟩
    cases hd with
    | @tup a xs _ ha hx =>
    have hlen : xs.length = r.length := by rw [hx.length, List.length_map]
    have hl12 := ok.len
    refine q_no (evb_is (EvB.or (EvB.not (EvB.of (ev_isTup (ev_tv rfl) ha))) fun _ H1 e1 => EvB.of' (ev_I0 (ev_lenT (ev_tv rfl) (e1 _ _ ha)) fun _ _ => ev_tc)) ?_) fun H1 e1 => ?_
    · show (!true || decide (12 < (xs.length : Int))) = false
      rw [hlen]
      simp
      omega
    · refine s_ret (ev_is (ev_all (bs := (List.range xs.length).map fun _ => true) fun Q1 q1 => ?_) (by rw [all_true])) fun H' e => k H' (e1.trans e)
      refine ⟨_, rfl, a, rfl, ⟨_, SqT.of (e1 _ _ ha)⟩, fun D hD => ?_⟩
      refine lc_vals (walk_tup (K := K) (a := a) (xs := xs)) (fun _ => .bl true) hD (by omega) (fun H2 e2 => SqT.of (e2 _ _ (e1 _ _ ha))) (fun x => rfl) (fun i x H2 H3 hi e2 hy => ?_) (fun H2 e2 hl => q1 D H2 e2 (by rw [hl, ← map_bls]))
      obtain ⟨rfl, hy⟩ := hy
      obtain ⟨dd, h1, h2⟩ := hx.getV hy
      rw [List.getElem?_map] at h1
      obtain ⟨dr, h3, rfl⟩ := Option.map_eq_some_iff.mp h1
      obtain ⟨h4, h5⟩ := ok.drops dr (List.mem_of_getElem? h3)
      exact ⟨Same.refl _, ev_call (ea_cons (ev_tv rfl) fun _ _ => ea_cons (ev_tv rfl) fun _ _ => ea_nil) fun H4 e4 Q4 q4 => ⟨x, t, dr, S, rfl, h2.go (e1.trans (e2.trans e4)), h4, ht.go (e1.trans (e2.trans e4)), h5, q4⟩⟩
/-! ### are_rows -/
structure OkRows (S : Str → Prop) (r : Rows) : Prop where
  front : OkRow S r.1
  turn : OkRow S r.2
  some : 0 < r.2.length
def spAreRows : Sp := fun vs H Q _ => ∃ (v : V) (t : Addr) (r : Rows) (S : Str → Prop), vs = [v, .ref t] ∧ Dt H v (dRows r) ∧ Tgs H t S ∧ OkRows S r ∧ ∀ H', Same H H' → Q (.bl true) H'
theorem scAreRows : FnScope ["told", "targets", "front", "turn"] ["told", "targets"] (defScope sAreRows) := ⟨rfl, rfl, rfl, by decide +kernel, rfl, by decide +kernel, by decide +kernel⟩
theorem ok_areRows (T : Tx K mg ad) : FnOk P w K mg base CX0 4 ad.areRows ad.dAreRows ["told", "targets"] spAreRows := by
  have GR : FnOk P w K mg base CX0 3 ad.isRow ad.dIsRow ["told", "targets"] spRow := ok_row T
  have bR := T.fIsRow.binds (ps := ["told", "targets"]) fun _ _ _ _ _ _ us hl => match us, hl with | [_, _], _ => rfl
  refine T.fAreRows.ok scAreRows (fun vs H Q E h => ?_) (fun cdv A outer s H vs Q E hr h => ?_)
  · obtain ⟨v, t, d, S, rfl, _⟩ := h
    rfl
  · obtain ⟨v, t, r, S, rfl, hd, ht, ok, k⟩ := h
    refine ⟨_, pss_cons (ps_if (PW.pt (pw_or (pt_not (pt_val (pe_isi rfl T.isinstance (pv 0) (pe_ty T.tuple b_tuple))))
        (pw_or1 (pt_cmpR op_ne (pe_callB call_len_seq (by rfl) T.len PySem.boot_len (pa_cons (pv 0) pa_nil)) pe_int (nomark _))))) (pss_one (ps_ret pe_bl)) pss_nil)
      (pss_cons (ps_asg (pv 0) (pg_tup (by rfl) (pgs_cons (pg_name (i := 2) scAreRows.nd rfl (Or.inl rfl)) (pgs_cons (pg_name (i := 3) scAreRows.nd rfl (Or.inl rfl)) pgs_nil))))
      (pss_one (ps_ret (pe_and (pe_call GR hr (by rfl) T.gIsRow T.fIsRow.kp bR .nil pass0 (pa_cons (pv 2) (pa_cons (pv 1) pa_nil))) (pe_and (pe_call GR hr (by rfl) T.gIsRow T.fIsRow.kp bR .nil pass0 (pa_cons (pv 3) (pa_cons (pv 1) pa_nil)))
        (pe_one (pe_cmpR op_gt (pe_callB call_len_seq (by rfl) T.len PySem.boot_len (pa_cons (pv 3) pa_nil)) pe_int (nomark _)))))))), ?_⟩
    cases hd with
    | @tup a xs _ ha hx =>
    cases hx with
    | cons hf hx =>
    rename_i vf xs
    cases hx with
    | cons ht' hx =>
    rename_i vt xs
    cases hx
    refine q_no (evb_is (EvB.or (EvB.not (EvB.of (ev_isTup (ev_tv rfl) ha))) fun _ H1 e1 => EvB.of' (ev_ne (ev_lenT (ev_tv rfl) (e1 _ _ ha)) (fun _ _ => ev_tc) rfl)) (by simp)) fun H1 e1 => ?_
    have t1 : ∃ at_ xt, vt = .ref at_ ∧ H at_ = some (.tup xt) ∧ xt.length = r.2.length := by
      cases ht' with
      | @tup at_ xt _ h1 h2 => exact ⟨at_, xt, rfl, h1, by rw [h2.length, List.length_map]⟩
    obtain ⟨at_, xt, rfl, hat, hlt⟩ := t1
    refine q_unpack2 (ev_tv rfl) (e1 _ _ ha) fun H0 e0 => ?_
    replace e1 := e1.trans e0
    refine s_ret (ev_is (Ev.andV (ev_call (ea_cons (ev_tv rfl) fun _ _ => ea_cons (ev_tv rfl) fun _ _ => ea_nil) fun H4 e4 Q4 q4 => ⟨vf, t, r.1, S, rfl, hf.go (e1.trans e4), ht.go (e1.trans e4), ok.front, q4⟩)
      fun _ H2 e2 => Ev.andV (ev_call (ea_cons (ev_tv rfl) fun _ _ => ea_cons (ev_tv rfl) fun _ _ => ea_nil) fun H4 e4 Q4 q4 => ⟨.ref at_, t, r.2, S, rfl, ht'.go (e1.trans (e2.trans e4)), ht.go (e1.trans (e2.trans e4)), ok.turn, q4⟩)
        fun _ H3 e3 => ev_I0 (ev_lenT (ev_tv rfl) (e3 _ _ (e2 _ _ (e1 _ _ hat)))) fun _ _ => ev_tc) ?_) fun H' e => k H' (e1.trans e)
    have hs := ok.some
    show V.bl (true && (true && decide ((0 : Int) < (xt.length : Int)))) = V.bl true
    rw [hlt]
    simp
    exact hs
end
end Bc

namespace Bc
open PySem L2
section
variable {P : Program} {w : World} {K : PySem.W.Frag} {mg : Str → Option Value} {base : Heap} {ad : Ad}
/-! ### is_name -/
def letters : Str := "abcdefghijklmnopqrstuvwxyz"
def signs : Str := "abcdefghijklmnopqrstuvwxyz0123456789."
def okName (z : Str) : Bool := decide (1 ≤ (z.length : Int)) && decide ((z.length : Int) ≤ 16) && (match z.cps.toList with | [] => false | c :: _ => decide (c ∈ letters.cps.toList)) && z.cps.toList.all fun c => decide (c ∈ signs.cps.toList)
def spIsName : Sp := fun vs H Q _ => ∃ z : Str, vs = [.str z] ∧ z.length ≤ 1000 ∧ ∀ H', Same H H' → Q (.bl (okName z)) H'
theorem scIsName : FnScope ["text", "sign"] ["text"] (defScope sIsName) := ⟨rfl, rfl, rfl, by decide +kernel, rfl, by decide +kernel, by decide +kernel⟩
theorem ok_isName (T : Tx K mg ad) : FnOk P w K mg base CX0 2 ad.isName ad.dIsName ["text"] spIsName := by
  refine T.fIsName.ok scIsName (fun vs H Q E h => ?_) (fun cdv A outer s H vs Q E hr h => ?_)
  · obtain ⟨z, rfl, _⟩ := h
    rfl
  · obtain ⟨z, rfl, hz, k⟩ := h
    obtain ⟨t1, gM⟩ := T.mSigns
    obtain ⟨t2, gL⟩ := T.letters
    obtain ⟨t3, gS⟩ := T.signs
    refine ⟨_, pss_cons (ps_if (PW.pt (pw_or (pt_not (pt_chain op_le op_le pe_int (pe_callB call_len_str (by rfl) T.len PySem.boot_len (pa_cons (pv 0) pa_nil)) (pe_glob (v := .int 16) (by rfl) gM ⟨_, rfl⟩)))
        (pw_or1 (pt_cmpR op_notIn_sign (pe_ix ix_str (pv 0) pe_int (fun _ _ => rfl)) (pe_glob (v := .str letters) (by rfl) gL ⟨_, rfl⟩) (by rfl))))) (pss_one (ps_ret pe_bl)) pss_nil)
      (pss_one (ps_ret (pe_callB (cr_all rfl) (by rfl) T.all b_all (pa_cons (pe_lc (own := [("sign", 1)]) (g := gName 1) (tt := tYes) rfl scIsName.nd (pi_str (pv 0)) (blkOk_by (N := ["text", "sign"]) (sc := defScope sIsName) (by decide +kernel))
        (fun _ _ _ _ _ => pg_name (i := 1) scIsName.nd rfl (Or.inl rfl)) (fun _ _ _ _ _ => pts_nil) (fun _ _ _ _ _ => pe_cmpR op_in_sign (pv 1) (pe_glob (v := .str signs) (by rfl) gS ⟨_, rfl⟩) (by rfl))) pa_nil)))), ?_⟩
    have key : ∀ H1, Same H H1 → EvB (tOr (tNot (tTest (tChain (rI0 fun i j => .bl (decide (i ≤ j))) (rI0 fun i j => .bl (decide (i ≤ j))) (tC (.int 1)) (tCB (fun xs H Q => ∃ z : Str, xs = [V.str z] ∧ z.length ≤ sizeLine ∧ Q (.int z.length) H) (tCons (tVar 0) tNil)) (tC (.int 16)))))
        (tTest (tOp (fun x y H Q => ∃ (c : Nat) (z : Str), x = .str ⟨#[c]⟩ ∧ y = .str z ∧ Q (.bl (!decide (c ∈ z.cps.toList))) H) (tOp rIxS (tVar 0) (tC (.int 0))) (tC (.str letters))))) [some (.str z), none] H1
        (!(decide (1 ≤ (z.length : Int)) && decide ((z.length : Int) ≤ 16)) || !(match z.cps.toList with | [] => false | c :: _ => decide (c ∈ letters.cps.toList))) := fun H1 e1 => by
      refine EvB.or (EvB.not (EvB.of' (ev_chain (g := fun i j => decide (i ≤ j)) (g' := fun i j => decide (i ≤ j)) ev_tc (fun _ _ => ev_lenS (ev_tv rfl) (by omega)) fun _ _ => ev_tc))) fun h H2 e2 => EvB.of' ?_
      have h1 : 1 ≤ z.length := by
        simp at h
        omega
      obtain ⟨c, r, hc⟩ : ∃ c r, z.cps.toList = c :: r := by
        cases hq : z.cps.toList with
        | nil =>
          have : z.length = 0 := by
            show z.cps.size = 0
            rw [← Array.length_toList, hq]
            rfl
          omega
        | cons c r => exact ⟨c, r, rfl⟩
      rw [hc]
      exact ev_signNot (ev_ixS (i := 0) (ev_tv rfl) (fun _ _ => ev_tc) (by omega) (by rw [hc]; rfl)) fun _ _ => ev_tc
    by_cases hb : (!(decide (1 ≤ (z.length : Int)) && decide ((z.length : Int) ≤ 16)) || !(match z.cps.toList with | [] => false | c :: _ => decide (c ∈ letters.cps.toList))) = true
    · have e0 : okName z = false := by
        unfold okName
        cases h1 : (decide (1 ≤ (z.length : Int)) && decide ((z.length : Int) ≤ 16)) with
        | false => simp
        | true =>
          rw [h1] at hb
          cases h2 : (match z.cps.toList with | [] => false | c :: _ => decide (c ∈ letters.cps.toList)) with
          | false => simp
          | true =>
            rw [h2] at hb
            simp at hb
      have z1 := key H (Same.refl H)
      rw [hb] at z1
      refine if_yes z1 fun H1 e1 => s_ret ev_tc fun H2 e2 => ?_
      have z2 := k H2 (e1.trans e2)
      rw [e0] at z2
      exact z2
    · have hb' := Bool.eq_false_iff.mpr hb
      have e0 : okName z = (z.cps.toList.all fun c => decide (c ∈ signs.cps.toList)) := by
        unfold okName
        cases h1 : (decide (1 ≤ (z.length : Int)) && decide ((z.length : Int) ≤ 16)) with
        | false =>
          rw [h1] at hb'
          simp at hb'
        | true =>
          rw [h1] at hb'
          cases h2 : (match z.cps.toList with | [] => false | c :: _ => decide (c ∈ letters.cps.toList)) with
          | false =>
            rw [h2] at hb'
            simp at hb'
          | true => simp
      have z1 := key H (Same.refl H)
      rw [hb'] at z1
      refine q_no z1 fun H1 e1 => ?_
      refine s_ret (ev_all (bs := (List.range z.cps.size).map fun i => decide (z.cps.toList.getD i 0 ∈ signs.cps.toList)) fun Q1 q1 => ?_) fun H2 e2 => ?_
      · refine ⟨_, rfl, z, rfl, fun D hD => ?_⟩
        refine lc_vals walk_str (fun i => .bl (decide (z.cps.toList.getD i 0 ∈ signs.cps.toList))) hD (by show z.length < _; omega) (fun _ _ => True.intro) (fun x => rfl) (fun i x H2 H3 hi e2 hy => ?_) (fun H2 e2 hl => q1 D H2 e2 (by rw [hl, ← map_bls]))
        obtain ⟨rfl, c, hc, rfl⟩ := hy
        refine ⟨Same.refl _, ev_is (ev_signIn (ev_tv rfl) fun _ _ => ev_tc) ?_⟩
        have q : z.cps.toList.getD i 0 = c := by
          rw [List.getD_eq_getElem?_getD, Array.getElem?_toList, hc]
          rfl
        rw [q]
      · have z2 := k H2 (e1.trans e2)
        rw [e0] at z2
        have q : (((List.range z.cps.size).map fun i => decide (z.cps.toList.getD i 0 ∈ signs.cps.toList)).all id) = (z.cps.toList.all fun c => decide (c ∈ signs.cps.toList)) := by
          rw [List.all_map]; rw [Bool.eq_iff_iff, List.all_eq_true, List.all_eq_true]
          constructor
          · intro h c hc
            obtain ⟨i, hi, e⟩ := List.getElem_of_mem hc
            have := h i (List.mem_range.mpr (by rw [← Array.length_toList]; exact hi))
            simp only [Function.comp, id] at this
            rw [List.getD_eq_getElem?_getD, List.getElem?_eq_getElem hi] at this
            rw [← e]
            exact this
          · intro h i hi
            have hi' : i < z.cps.toList.length := by
              rw [Array.length_toList]
              exact List.mem_range.mp hi
            have := h z.cps.toList[i] (List.getElem_mem hi')
            simp only [Function.comp, id]
            rw [List.getD_eq_getElem?_getD, List.getElem?_eq_getElem hi']
            exact this
        rw [q]
        exact z2
end
end Bc

namespace Bc
open PySem L2
section
variable {P : Program} {w : World} {K : PySem.W.Frag} {mg : Str → Option Value} {base : Heap} {ad : Ad}
/-! ### check_names -/
structure OkNames (zs : List Str) : Prop where
  ok : ∀ z ∈ zs, okName z = true
  len : ∀ z ∈ zs, z.length ≤ 1000
  nd : zs.Nodup
  few : zs.length ≤ 1000
def spNames : Sp := fun vs H Q _ => ∃ (l : Addr) (zs : List Str), vs = [.ref l] ∧ H l = some (.lst (zs.map V.str)) ∧ OkNames zs ∧ ∀ H', Same H H' → Q .non H'
theorem scNames : FnScope ["names", "seen", "name"] ["names"] (defScope sNames) := ⟨rfl, rfl, rfl, by decide +kernel, rfl, by decide +kernel, by decide +kernel⟩
def seenK (zs : List Str) : List (Key × V) := zs.map fun z => (.inr z, .bl true)
theorem seen_no {zs : List Str} {z : Str} (h : z ∉ zs) : valV (seenK zs) (.inr z) = none := by
  induction zs with
  | nil => rfl
  | cons y r ih =>
    show valV ((Sum.inr y, V.bl true) :: seenK r) _ = none
    rw [valV_cons, if_neg (fun e => h (by rw [Sum.inr.inj e]; exact List.mem_cons_self))]
    exact ih fun m => h (List.mem_cons_of_mem _ m)
theorem take_snoc {α : Type} {l : List α} {i : Nat} {x : α} (h : l[i]? = some x) : l.take (i + 1) = l.take i ++ [x] := by
  rw [List.take_add_one, h]
  rfl
theorem not_in_take {l : List Str} {i : Nat} {x : Str} (hn : l.Nodup) (h : l[i]? = some x) : x ∉ l.take i := by
  intro m
  obtain ⟨j, hj, e⟩ := List.getElem_of_mem m
  rw [List.length_take] at hj
  rw [List.getElem_take] at e
  have h2 : l[j]? = some x := by
    rw [List.getElem?_eq_getElem (by omega), e]
  have := nd_ix hn h2 h
  omega
theorem ok_names (T : Tx K mg ad) : FnOk P w K mg base CX0 3 ad.names ad.dNames ["names"] spNames := by
  have GN : FnOk P w K mg base CX0 2 ad.isName ad.dIsName ["text"] spIsName := ok_isName T
  have bN := T.fIsName.binds (ps := ["text"]) fun _ _ _ _ _ _ us hl => match us, hl with | [_], _ => rfl
  refine T.fNames.ok scNames (fun vs H Q E h => ?_) (fun cdv A outer s H vs Q E hr h => ?_)
  · obtain ⟨l, zs, rfl, _⟩ := h
    rfl
  · obtain ⟨l, zs, rfl, hl, ok, k⟩ := h
    refine ⟨_, pss_cons (ps_set (i := 1) scNames.nd rfl (.inl rfl) pe_dnewK) (pss_one (ps_for PassesOwn.never rfl (pi_list (pv 0)) (pg_name (i := 2) scNames.nd rfl (.inl rfl))
      (pss_cons (ps_if (pt_not (pt_val (pe_isi rfl T.isinstance (pv 2) (pe_ty T.str b_str)))) (pss_one ps_never) pss_nil)
      (pss_cons (ps_if (PW.pt (pw_or (pt_not (pt_val (pe_call GN hr (by rfl) T.gIsName T.fIsName.kp bN .nil pass0 (pa_cons (pv 2) pa_nil)))) (pw_or1 (pt_cmp (pc_din (hu_of hr) (pv 2) (pv 1)))))) (pss_one ps_never) pss_nil)
      (pss_one (ps_dput (hu_of hr) (pv 1) (pv 2) pe_bl rfl)))))), ?_⟩
    refine q_dnew fun d hd => ?_
    have hlen := ok.few
    refine s_forL (K := K) (a := l) (xs := zs.map V.str) (ev_tv rfl) (by rw [upd_ne (ne_of_none hl hd)]; exact hl) (fun i σ H' => ∃ x, σ = [some (.ref l), some (.ref d), x] ∧ Same H H' ∧ H' d = some (.dK (seenK (zs.take i))))
      (fun H' e => ⟨none, rfl, fun b o q => e b o (by rw [upd_ne (ne_of_none q hd)]; exact q), e _ _ upd_same⟩) (fun i σ' H' _ ⟨_, _, e, _⟩ => SqL.of (e _ _ hl)) (fun i x σ' H' hx p => ?_) (fun σ' H' ⟨_, _, e, _⟩ => k H' e)
    obtain ⟨x0, rfl, e, hH⟩ := p
    rw [List.getElem?_map] at hx
    obtain ⟨z, hz, rfl⟩ := Option.map_eq_some_iff.mp hx
    have hzm := List.mem_of_getElem? hz
    refine q_no (EvB.not (EvB.of (ev_isStr (ev_tv rfl)))) fun H1 e1 => ?_
    refine q_no (evb_is (EvB.or (EvB.not (EvB.of (b := okName z) (ev_call (ea_cons (ev_tv rfl) fun _ _ => ea_nil) fun H4 e4 Q4 q4 => ⟨z, rfl, ok.len z hzm, q4⟩))) fun _ H2 e2 => EvB.of (ev_inD (k := .inr z) (ev_tv rfl) (fun _ _ => ev_tv rfl) (e2 _ _ (e1 _ _ hH)))) ?_) fun H2 e2 => ?_
    · rw [ok.ok z hzm, seen_no (not_in_take ok.nd hz)]
      rfl
    · refine s_dput (k := .inr z) (v := .bl true) ev_tc (fun _ _ => ev_tv rfl) (fun _ _ => ev_tv rfl) (e2 _ _ (e1 _ _ hH)) (by show (List.map _ _).length < _; rw [List.length_map, List.length_take]; omega) fun H3 e3 => ?_
      refine ⟨_, rfl, Same.mut (e.trans (e1.trans (e2.trans e3))) hd, ?_⟩
      rw [upd_same, putK_new _ (seen_no (not_in_take ok.nd hz)), take_snoc hz]
      show _ = some (HO.dK (seenK (zs.take i ++ [z])))
      unfold seenK
      rw [List.map_append]
      rfl
/-! ### check_kinds: dicts, an outlets' list or tuple -/
def spKinds : Sp := fun vs H Q _ => ∃ (a b c : Addr) (ks is : List (Key × V)) (os : List V), vs = [.ref a, .ref b, .ref c] ∧ H a = some (.dK ks) ∧ H b = some (.dK is) ∧ (H c = some (.lst os) ∨ H c = some (.tup os)) ∧ 1 ≤ ks.length ∧ ks.length ≤ 12 ∧ 1 ≤ is.length ∧ ∀ H', Same H H' → Q .non H'
theorem scKinds : FnScope ["knots", "inlets", "outlets"] ["knots", "inlets", "outlets"] (defScope sKinds) := ⟨rfl, rfl, rfl, by decide +kernel, rfl, by decide +kernel, by decide +kernel⟩
theorem ok_kinds (T : Tx K mg ad) : FnOk P w K mg base CX0 2 ad.kinds ad.dKinds ["knots", "inlets", "outlets"] spKinds := by
  refine T.fKinds.ok scKinds (fun vs H Q E h => ?_) (fun cdv A outer s H vs Q E hr h => ?_)
  · obtain ⟨a, b, c, ks, is, os, rfl, _⟩ := h
    rfl
  · obtain ⟨a, b, c, ks, is, os, rfl, ha, hb, hc, k1, k2, i1, k⟩ := h
    obtain ⟨t1, gM⟩ := T.mKnots
    refine ⟨_, pss_cons (ps_if (PW.pt (pw_or (pt_not (pt_val (pe_isi rfl T.isinstance (pv 0) (pe_ty T.dict b_dict)))) (pw_or1 (pt_not (pt_chain op_le op_le pe_int (pe_callB call_lenD (by rfl) T.len PySem.boot_len (pa_cons (pv 0) pa_nil)) (pe_glob (v := .int 12) (by rfl) gM ⟨_, rfl⟩)))))) (pss_one ps_never) pss_nil)
      (pss_one (ps_if (PW.pt (pw_or (pt_not (pt_val (pe_isi rfl T.isinstance (pv 1) (pe_ty T.dict b_dict)))) (pw_or (pt_not (pt_val (pe_callB call_isiT (by rfl) T.isinstance b_isinstance (pa_cons (pv 2) (pa_cons (pe_tup (pa_cons (pe_ty T.list b_list) (pa_cons (pe_ty T.tuple b_tuple) pa_nil))) pa_nil)))))
        (pw_or1 (pt_cmpR op_eq (pe_callB call_lenD (by rfl) T.len PySem.boot_len (pa_cons (pv 1) pa_nil)) pe_int (nomark _)))))) (pss_one ps_never) pss_nil)), ?_⟩
    refine q_no (evb_is (EvB.or (EvB.not (EvB.of (ev_isDict (ev_tv rfl) ha))) fun _ H1 e1 => EvB.not (EvB.of' (ev_chain (g := fun i j => decide (i ≤ j)) (g' := fun i j => decide (i ≤ j)) ev_tc (fun _ e2 => ev_lenD (ev_tv rfl) (e2 _ _ (e1 _ _ ha))) fun _ _ => ev_tc))) ?_) fun H1 e1 => ?_
    · show (!true || !(decide ((1 : Int) ≤ (ks.length : Nat)) && decide (((ks.length : Nat) : Int) ≤ 12))) = false
      simp
      omega
    · refine s_no (evb_is (EvB.or (EvB.not (EvB.of (ev_isDict (ev_tv rfl) (e1 _ _ hb)))) fun _ H2 e2 => EvB.or (EvB.not (EvB.of (b := true) fun Q2 q2 => ?_)) fun _ H3 e3 => EvB.of' (ev_eq (ev_lenD (ev_tv rfl) (e3 _ _ (e2 _ _ (e1 _ _ hb)))) (fun _ _ => ev_tc) rfl)) ?_) fun H4 e4 => k H4 (e1.trans e4)
      · refine ⟨_, rfl, sz (by show 2 ≤ _; decide), fun p hp => ?_⟩
        have e12 := (e1.trans e2).trans (same_upd (o := HO.tup [V.ty "list", V.ty "tuple"]) hp)
        have hty : ∃ t, TyX K (upd H2 p (.tup [V.ty "list", V.ty "tuple"])) (.ref c) t ∧ PySem.W.kitAny K t [.type "list", .type "tuple"] = some true := by
          rcases hc with hc | hc
          · exact ⟨_, .base (.lst (e12 _ _ hc)), kitAny_cons (b := true) (kit_ty (by decide +kernel)) (fun z => nomatch z) fun _ => rfl⟩
          · exact ⟨_, .base (.tup (e12 _ _ hc)), kitAny_cons (b := false) (kit_ty (by decide +kernel)) (fun _ => kitAny_cons (b := true) (kit_ty (by decide +kernel)) (fun z => nomatch z) fun _ => rfl) fun z => nomatch z⟩
        obtain ⟨t, h1, h2⟩ := hty
        exact ⟨.ref c, p, [.ty "list", .ty "tuple"], t, [.type "list", .type "tuple"], true, rfl, upd_same, .cons (.ty "list") (.cons (.ty "tuple") .nil), h1, h2, q2 _ (same_upd hp)⟩
      · show (!true || (!true || decide (V.int ((is.length : Nat) : Int) = V.int 0))) = false
        simp
        intro z
        simp [z] at i1
end
end Bc

/-! Dict comprehensions over any walk, the pairs told -/
namespace Bc
open PySem L2
theorem valV_range {f : Nat → Key} {g : Nat → V} {n : Nat} {k : Key} (h : ∀ i, i < n → f i ≠ k) : valV ((List.range n).map fun i => (f i, g i)) k = none := by
  unfold valV
  rw [List.find?_eq_none.mpr]
  · rfl
  · intro p hp
    obtain ⟨i, hi, rfl⟩ := List.mem_map.mp hp
    simpa using h i (List.mem_range.mp hi)
theorem dc_it {J : It} {n : Nat} {G : Hp → Prop} {Y : Nat → Hp → V → Hp → Prop} (w : Walk J n G Y) {g : TG} {tt : TT} {tk tv : TE} {vs : List Nat} {σ : L2.St} {H1 : Hp} {D : Addr} {Qd : Hp → Prop} (Pv : Nat → Hp → Prop) (h0 : Pv 0 (upd H1 D (.dK []))) (hG : ∀ i H, i ≤ n → Pv i H → G H) (hs : ∀ i x H H', i < n → Pv i H → Y i H x H' → g x (wipe σ vs) H' fun σ2 H2 => wipe σ2 vs = wipe σ vs ∧ tt σ2 H2 fun b H3 =>
      if b = true then tk σ2 H3 fun y H4 => tv σ2 H4 fun z H5 => ∃ kvs k, y = kV k ∧ H5 D = some (.dK kvs) ∧ kvs.length < sizeLine ∧ Pv (i + 1) (upd H5 D (.dK (putK kvs k z))) else Pv (i + 1) H3) (hd : ∀ H, Pv n H → Qd H) : ∃ W : Nat → Nat → Hp → Prop, (∃ m, W 0 m (upd H1 D (.dK []))) ∧ ∀ i m H, W i m H → (J.stop i H ∧ Qd H) ∨ (J.go i H ∧ ∃ Nx : Hp → Prop, (∀ H', Nx H' → ∃ m', m' < m ∧ W (i + 1) m' H') ∧ ∀ x H', J.yld i H x H' → g x (wipe σ vs) H' fun σ2 H2 => wipe σ2 vs = wipe σ vs ∧ tt σ2 H2 fun b H3 => if b = true then tk σ2 H3 fun y H4 => tv σ2 H4 fun z H5 => ∃ kvs k, y = kV k ∧ H5 D = some (.dK kvs) ∧ kvs.length < sizeLine ∧ Nx (upd H5 D (.dK (putK kvs k z))) else Nx H3) := by
  refine ⟨fun k m H => m = n - k ∧ k ≤ n ∧ Pv k H, ⟨n, by simp, Nat.zero_le _, h0⟩, ?_⟩
  rintro i m H ⟨rfl, hi, p⟩
  have q := hG i H hi p
  by_cases hltz : i < n
  · exact .inr ⟨w.goes i H hltz q, Pv (i + 1), fun H' p' => ⟨n - (i + 1), by omega, rfl, hltz, p'⟩, fun x H' y => hs i x H H' hltz p (w.yields i H x H' hltz q y)⟩
  · have e : i = n := by omega
    subst e; exact .inl ⟨w.stops H q, hd H p⟩
theorem dc_vals {J : It} {n : Nat} {G : Hp → Prop} {Y : Nat → Hp → V → Hp → Prop} (w : Walk J n G Y) {tk tv : TE} {j : Nat} {vs : List Nat} {σ : L2.St} {H1 : Hp} {D : Addr} {Qd : Hp → Prop} (f : Nat → Key) (g : Nat → V)
    (hD : H1 D = none) (hn : n < 100000) (hG : ∀ H, Same H1 H → G H) (hw : ∀ x, wipe ((wipe σ vs).set j (some x)) vs = wipe σ vs) (inj : ∀ i i', i < n → i' < n → f i = f i' → i = i')
    (hs : ∀ i x H H', i < n → Same H1 H → Y i H x H' → Same H H' ∧ Ev tk ((wipe σ vs).set j (some x)) H' (kV (f i)) ∧ ∀ H2, Same H' H2 → Ev tv ((wipe σ vs).set j (some x)) H2 (g i))
    (hd : ∀ H, Same H1 H → H D = some (.dK ((List.range n).map fun i => (f i, g i))) → Qd H) : ∃ W : Nat → Nat → Hp → Prop, (∃ m, W 0 m (upd H1 D (.dK []))) ∧ ∀ i m H, W i m H →
      (J.stop i H ∧ Qd H) ∨ (J.go i H ∧ ∃ Nx : Hp → Prop, (∀ H', Nx H' → ∃ m', m' < m ∧ W (i + 1) m' H') ∧ ∀ x H', J.yld i H x H' → gName j x (wipe σ vs) H' fun σ2 H2 => wipe σ2 vs = wipe σ vs ∧ tYes σ2 H2 fun b H3 => if b = true then tk σ2 H3 fun y H4 => tv σ2 H4 fun z H5 => ∃ kvs k, y = kV k ∧ H5 D = some (.dK kvs) ∧ kvs.length < sizeLine ∧ Nx (upd H5 D (.dK (putK kvs k z))) else Nx H3) := by
  refine dc_it w (fun i H => Same H1 H ∧ H D = some (.dK ((List.range i).map fun i => (f i, g i)))) ⟨same_upd hD, upd_same⟩ (fun i H _ p => hG H p.1) (fun i x H H' hi p y => ?_) (fun H p => hd H p.1 p.2)
  obtain ⟨s1, ha⟩ := p
  obtain ⟨s2, k1, k2⟩ := hs i x H H' hi s1 y
  refine ⟨hw x, ?_⟩
  show tk ((wipe σ vs).set j (some x)) H' _
  refine k1 _ fun H4 s4 => k2 H4 s4 _ fun H5 s5 => ⟨_, f i, rfl, s5 _ _ (s4 _ _ (s2 _ _ ha)), szl (by rw [List.length_map, List.length_range]; omega), Same.mut (s1.trans (s2.trans (s4.trans s5))) hD, ?_⟩
  rw [upd_same, putK_new _ (valV_range fun i' hi' e => absurd (inj _ _ (by omega) hi e) (by omega)), List.range_succ, List.map_append]
  rfl
/-- the same over what is a list of keys -/
theorem range_map {α β : Type} (l : List α) (h : α → β) (d : β) : (List.range l.length).map (fun i => (l[i]?.map h).getD d) = l.map h := by
  refine List.ext_getElem? fun i => ?_
  rw [List.getElem?_map]
  by_cases hi : i < l.length
  · rw [List.getElem?_range hi]
    show some ((l[i]?.map h).getD d) = _
    rw [List.getElem?_map, List.getElem?_eq_getElem hi]
    rfl
  · rw [List.getElem?_eq_none_iff.mpr (by rw [List.length_range]; omega), List.getElem?_map, List.getElem?_eq_none_iff.mpr (by omega)]
    rfl
end Bc

namespace Bc
open L2 PySem PySem.W PyProof.Rows
section
variable {X : Cx}
/-- name = {..: .. for ..} on one line, the name a local -/
theorem ps_setDc {i : Nat} {y : Str} {py : Pos} {kx vx tg iter : Expr} {ifs : List Expr} {scope : Scope} {own : List (Str × Nat)} {pos spos : Pos} {wi : TI} {g : TG} {tt : TT} {tk tv : TE} (hc : X.calm = true) (hN : X.N.Nodup) (hy : X.N[i]? = some y) (hyl : X.env.scope.names.lookup y = some .local)
    (hsw : swapsWith (.DictComp kx vx [⟨tg, iter, ifs, 0⟩] scope pos) (some (.Name y py)) spos.line X.env = pure true) (hi : PI X tg iter wi) (ok : BlkOk X.N X.env.scope scope own) (hg : ∀ (s : Shared) (H : Hp) (C : Addr) (cl : List (Str × Addr)) (fp : List Addr), PG (X.blk s H scope (compEnvC scope cl C X.env) fp) tg g) (ht : ∀ (s : Shared) (H : Hp) (C : Addr) (cl : List (Str × Addr)) (fp : List Addr), PTs (X.blk s H scope (compEnvC scope cl C X.env) fp) ifs tt) (hk : ∀ (s : Shared) (H : Hp) (C : Addr) (cl : List (Str × Addr)) (fp : List Addr), PE (X.blk s H scope (compEnvC scope cl C X.env) fp) kx tk) (he : ∀ (s : Shared) (H : Hp) (C : Addr) (cl : List (Str × Addr)) (fp : List Addr), PE (X.blk s H scope (compEnvC scope cl C X.env) fp) vx tv) (hs : ∀ x, foldedSetIterable iter X.env x = pure x := by intro _; rfl) :
    PS X (.Assign [.Name y py] (.DictComp kx vx [⟨tg, iter, ifs, 0⟩] scope pos) spos) (tAsg (tDc wi g tt tk tv (own.map (·.2))) (gName i)) := by
  refine ⟨fun pz s σ H D I h => ?_⟩
  rw [exec_Assign_Name_used _ _ _ _ hsw]; refine wpAny_bind (wpAny_standAt (wpAny_bind ?_))
  show wpAny _ X.A (do let _ ← comprehension (.DictComp kx vx [⟨tg, iter, ifs, 0⟩] scope pos) scope X.env (firstIterPos [⟨tg, iter, ifs, 0⟩] pos) newDict false (eval iter X.env) (some (assign (.Name y py) X.env))) _ _ s
  have h : tDc wi g tt tk tv (own.map (·.2)) σ H (fun x H1 => gName i x σ H1 D.nx) := h
  refine wpAny_bind (thn (dc_core (Qf := fun _ s' => SP X pz D .next s') hc hN I hi ok hg ht hk he hs h fun L C s' m H' I' q hn f => ?_) fun _ s' hq => wpAny_pure (wpAny_pure hq))
  show wpAny _ _ (assign (.Name y py) X.env (.ref L)) _ _ _; refine wpAny_assign_Name (store_ok2 (v := V.ref L) I' hN hy (.inl hyl) rfl (fun s2 J2 ⟨a, sbz, ha⟩ => ?_) (.inr hyl))
  obtain ⟨zf0, zf1, f2, zf3, zf4, zf5⟩ := f
  have haC : C ≠ a := by
    rcases ha with z | z
    · rw [z]; exact zf1
    · exact fun e => zf4 y a z e.symm
  refine ⟨m, hn.sameBut sbz haC, fun h3 sby => ?_⟩
  exact ⟨_, H', J2.turned (t' := s2.toks) (fun b o hb e => (sby.2 b hb).trans e) zf0 zf1 zf3 zf4 zf5, q⟩
theorem swD_true {kx vx : Expr} {gs : List Comprehension} {scope : Scope} {pos py : Pos} {y : Str} {l : Nat} {env : Env} (hk : env.scope.kind = .function) (hy : env.scope.names.lookup y = some .local) (hl : (py.line == pos.line) = true)
    (ha : (scope.names.any fun (n, k) => n == y && (k == .local || k == .cell)) = false) : swapsWith (.DictComp kx vx gs scope pos) (some (.Name y py)) l env = pure true := by
  have ky : env.kindOf y = some .local := hy; have hb : env.blockKind = .function := by unfold Env.blockKind; rw [hk]; rfl
  unfold swapsWith; simp only [hb, ky, ha, Expr.pos, hl]
  rfl
end
end Bc

/-! The order of texts; what is sorted is one list -/
namespace Bc
open PySem PySem.Spec L2 PyProof.Rows
def leS (x y : Str) : Bool := !ltCps y.cps.toList x.cps.toList
theorem lt_irr : ∀ a : List Nat, ltCps a a = false
  | [] => rfl
  | a :: r => by simp [ltCps, lt_irr r]
theorem lt_trans : ∀ {a b c : List Nat}, ltCps a b = true → ltCps b c = true → ltCps a c = true
  | [], [], _, h, _ => by simp [ltCps] at h
  | [], _ :: _, [], _, h => by simp [ltCps] at h
  | [], _ :: _, _ :: _, _, _ => by rfl
  | _ :: _, [], _, h, _ => by simp [ltCps] at h
  | _ :: _, _ :: _, [], _, h => by simp [ltCps] at h
  | a :: r, b :: t, c :: u, h1, h2 => by
    simp only [ltCps, Bool.or_eq_true, decide_eq_true_eq, Bool.and_eq_true, beq_iff_eq] at *
    rcases h1 with h1 | ⟨h1, k1⟩ <;> rcases h2 with h2 | ⟨h2, k2⟩
    · exact .inl (by omega)
    · exact .inl (by omega)
    · exact .inl (by omega)
    · exact .inr ⟨by omega, lt_trans k1 k2⟩
theorem lt_tri : ∀ a b : List Nat, ltCps a b = false → ltCps b a = false → a = b
  | [], [], _, _ => rfl
  | [], _ :: _, h, _ => by simp [ltCps] at h
  | _ :: _, [], _, h => by simp [ltCps] at h
  | a :: r, b :: t, h1, h2 => by
    simp only [ltCps, Bool.or_eq_false_iff, decide_eq_false_iff_not, Bool.and_eq_false_iff, beq_eq_false_iff_ne] at *
    have e : a = b := by omega
    subst e
    rw [lt_tri r t (h1.2.resolve_left fun q => q rfl) (h2.2.resolve_left fun q => q rfl)]
theorem leS_refl (x : Str) : leS x x = true := by simp [leS, lt_irr]
theorem leS_trans {x y z : Str} (h1 : leS x y = true) (h2 : leS y z = true) : leS x z = true := by
  simp only [leS, Bool.not_eq_true'] at *
  cases h : ltCps z.cps.toList x.cps.toList with
  | false => rfl
  | true =>
    cases hy : ltCps y.cps.toList z.cps.toList with
    | true => rw [lt_trans hy h] at h1; cases h1
    | false =>
      have e := lt_tri _ _ hy h2
      rw [e] at h1
      rw [h] at h1
      cases h1
theorem leS_total (x y : Str) : (leS x y || leS y x) = true := by
  simp only [leS]
  cases h1 : ltCps y.cps.toList x.cps.toList with
  | false => rfl
  | true =>
    cases h2 : ltCps x.cps.toList y.cps.toList with
    | false => rfl
    | true =>
      have := lt_trans h1 h2
      rw [lt_irr] at this
      cases this
theorem leS_anti {x y : Str} (h1 : leS x y = true) (h2 : leS y x = true) : x = y := by
  simp only [leS, Bool.not_eq_true'] at *
  have e := lt_tri _ _ h2 h1
  obtain ⟨a⟩ := x
  obtain ⟨b⟩ := y
  congr 1
  exact Array.toList_inj.mp e
/-- sorted -/
def srt (l : List Str) : List Str := l.mergeSort leS
theorem srt_perm (l : List Str) : (srt l).Perm l := List.mergeSort_perm l leS
theorem srt_pw (l : List Str) : (srt l).Pairwise (fun x y => leS x y = true) := List.pairwise_mergeSort (le := leS) (fun _ _ _ h1 h2 => leS_trans h1 h2) (fun a b => leS_total a b) l
theorem rising_pw : ∀ (l : List Str) (p : Str), risingS p l = true → (p :: l).Pairwise (fun x y => leS x y = true)
  | [], p, _ => by simp
  | x :: r, p, h => by
    simp only [risingS, Bool.and_eq_true] at h
    obtain ⟨h1, h2⟩ := h
    have ih := rising_pw r x h2
    have hpx : leS p x = true := h1
    refine List.pairwise_cons.mpr ⟨fun y hy => ?_, ih⟩; rcases List.mem_cons.mp hy with rfl | hy
    · exact hpx
    · exact leS_trans hpx ((List.pairwise_cons.mp ih).1 y hy)
theorem sortedS_pw {l : List Str} (h : sortedS l = true) : l.Pairwise (fun x y => leS x y = true) := by
  cases l with
  | nil => exact List.Pairwise.nil
  | cons x r => exact rising_pw r x h
theorem sorted_one {α : Type} {le : α → α → Bool} (anti : ∀ x y, le x y = true → le y x = true → x = y) : ∀ {l l' : List α}, l.Perm l' → l.Pairwise (fun x y => le x y = true) → l'.Pairwise (fun x y => le x y = true) → l = l' := fun hp h1 h2 =>
  hp.eq_of_pairwise (fun a b _ _ x y => anti a b x y) h1 h2
theorem srt_is {l ys : List Str} (hp : ys.Perm l) (hs : sortedS ys = true) : ys = srt l :=
  sorted_one (fun _ _ => leS_anti) (hp.trans (srt_perm l).symm) (sortedS_pw hs) (srt_pw l)
end Bc

namespace Bc
open PySem L2 PyProof.Rows StX
/-- te gives a new list of these; a new tuple; a new dict -/
def EvL (te : TE) (σ : L2.St) (H : Hp) (xs : List V) : Prop := ∀ Q : VK, (∀ p H', H p = none → Same H H' → H' p = some (.lst xs) → Q (.ref p) H') → te σ H Q
def EvU (te : TE) (σ : L2.St) (H : Hp) (xs : List V) : Prop := ∀ Q : VK, (∀ p H', H p = none → Same H H' → H' p = some (.tup xs) → Q (.ref p) H') → te σ H Q
def EvK (te : TE) (σ : L2.St) (H : Hp) (kvs : List (Key × V)) : Prop := ∀ Q : VK, (∀ p H', H p = none → Same H H' → H' p = some (.dK kvs) → Q (.ref p) H') → te σ H Q
/-- a for over a new list -/
theorem s_forN {K : PySem.W.Frag} {tl : TE} {j : Nat} {tb : TS} {D : Ends} {σ : L2.St} {H : Hp} {xs : List V} (h : EvL tl σ H xs)
    (k : ∀ p H1, Same H H1 → H1 p = some (.lst xs) → ∃ Pv : Nat → L2.St → Hp → Prop, Pv 0 σ H1 ∧ (∀ i σ' H', Pv i σ' H' → Same H1 H') ∧
      (∀ i x σ' H', xs[i]? = some x → Pv i σ' H' → tb { D with nx := Pv (i + 1), ct := Pv (i + 1), bk := D.nx } (σ'.set j (some x)) H') ∧ ∀ σ' H', Pv xs.length σ' H' → D.nx σ' H') : tFor (iList K tl) (gName j) tb D σ H := by
  refine h _ fun p H1 hp e1 hx => ⟨p, rfl, ⟨xs, SqL.of hx⟩, ?_⟩
  obtain ⟨Pv, h0, hG, hs, hd⟩ := k p H1 e1 hx
  exact for_it (walk_list (K := K) (a := p) (xs := xs)) Pv h0 (fun i σ' H' _ q => SqL.of (hG i σ' H' q _ _ hx)) (fun i x σ' H2 H3 hi q y => by
    obtain ⟨rfl, hy⟩ := y
    exact hs i x σ' _ hy q) hd
theorem q_forN {K : PySem.W.Frag} {tl : TE} {j : Nat} {tb u : TS} {D : Ends} {σ : L2.St} {H : Hp} {xs : List V} (h : EvL tl σ H xs)
    (k : ∀ p H1, Same H H1 → H1 p = some (.lst xs) → ∃ Pv : Nat → L2.St → Hp → Prop, Pv 0 σ H1 ∧ (∀ i σ' H', Pv i σ' H' → Same H1 H') ∧
      (∀ i x σ' H', xs[i]? = some x → Pv i σ' H' → tb { D with nx := Pv (i + 1), ct := Pv (i + 1), bk := u D } (σ'.set j (some x)) H') ∧ ∀ σ' H', Pv xs.length σ' H' → u D σ' H') : tSeq (tFor (iList K tl) (gName j) tb) u D σ H := s_forN (D := { D with nx := u D }) h k
theorem q_asgL {te : TE} {u : TS} {D : Ends} {σ : L2.St} {H : Hp} {i : Nat} {xs : List V} (h : EvL te σ H xs) (k : ∀ p H', H p = none → Same H H' → H' p = some (.lst xs) → u D (σ.set i (some (.ref p))) H') : tSeq (tAsg te (gName i)) u D σ H := h _ fun p H' hp e hx => k p H' hp e hx
theorem q_asgU {te : TE} {u : TS} {D : Ends} {σ : L2.St} {H : Hp} {i : Nat} {xs : List V} (h : EvU te σ H xs) (k : ∀ p H', H p = none → Same H H' → H' p = some (.tup xs) → u D (σ.set i (some (.ref p))) H') : tSeq (tAsg te (gName i)) u D σ H := h _ fun p H' hp e hx => k p H' hp e hx
theorem q_asgK {te : TE} {u : TS} {D : Ends} {σ : L2.St} {H : Hp} {i : Nat} {xs : List (Key × V)} (h : EvK te σ H xs) (k : ∀ p H', H p = none → Same H H' → H' p = some (.dK xs) → u D (σ.set i (some (.ref p))) H') : tSeq (tAsg te (gName i)) u D σ H := h _ fun p H' hp e hx => k p H' hp e hx
section
variable {K : PySem.W.Frag} {σ : L2.St} {H : Hp} {ta tb tl tk tv : TE}
abbrev rSortD : List V → Hp → VK → Prop := fun xs H Q => ∃ (a : Addr) (kvs : List (Key × V)) (ks : List Str), xs = [.ref a] ∧ Rd H a (.dK kvs) ∧ kvs.map (·.1) = ks.map Sum.inr ∧ ks.length < 64 ∧ ∀ (ys : List Str) (p : Addr), ys.Perm ks → sortedS ys = true → H p = none → Q (.ref p) (upd H p (.lst (ys.map V.str)))
theorem el_sortedD {a : Addr} {kvs : List (Key × V)} {ks : List Str} (ha : Ev ta σ H (.ref a)) (h : H a = some (.dK kvs)) (hk : kvs.map (·.1) = ks.map Sum.inr) (hl : ks.length < 64) :
    EvL (tCB rSortD (tCons ta tNil)) σ H ((srt ks).map V.str) := fun Q q =>
  ha _ fun H1 e1 => ⟨a, kvs, ks, rfl, .inl (e1 _ _ h), hk, hl, fun ys p h1 h2 h3 => by
    have e := srt_is h1 h2
    subst e
    exact q p _ (e1.free h3) (e1.trans (same_upd h3)) upd_same⟩
/-- [*d, *xs] -/
theorem el_star2 {a c : Addr} {ks os : List Str} {kvs : List (Key × V)} (ha : Ev ta σ H (.ref a)) (h : H a = some (.dK kvs)) (hk : kvs.map (·.1) = ks.map Sum.inr) (hb : ∀ H', Same H H' → Ev tb σ H' (.ref c)) (hc : H c = some (.lst (os.map V.str)) ∨ H c = some (.tup (os.map V.str))) (hl : (ks ++ os).length ≤ 100000) :
    EvL (tLst (tStarD ta (tStar K tb tNil))) σ H ((ks ++ os).map V.str) := fun Q q => by
  refine ha _ fun H1 e1 => ⟨a, kvs, rfl, .inl (e1 _ _ h), hb H1 e1 _ fun H2 e2 => ⟨c, os.map V.str, rfl, ?_, ?_⟩⟩
  · rcases hc with hc | hc
    · exact .inr (SqL.of (e2 _ _ (e1 _ _ hc)))
    · exact .inl (SqT.of (e2 _ _ (e1 _ _ hc)))
  · have e : (kvs.map fun kv : Key × V => kV kv.1) ++ (os.map V.str ++ []) = (ks ++ os).map V.str := by
      have := congrArg (List.map kV) hk
      rw [List.map_map, List.map_map] at this
      rw [List.append_nil, List.map_append]
      show List.map (kV ∘ fun x => x.1) kvs ++ _ = _
      rw [this]
      rfl
    show ((kvs.map fun kv : Key × V => kV kv.1) ++ (os.map V.str ++ [])).length ≤ sizeLine ∧ _
    rw [e]
    exact ⟨sz (by rw [List.length_map]; exact hl), fun p hp => q p _ (e1.free (e2.free hp)) ((e1.trans e2).trans (same_upd hp)) upd_same⟩
/-- [*d, *xs, *e] -/
theorem el_star3 {tc : TE} {a b c : Addr} {ks is os : List Str} {kvs ivs : List (Key × V)} (ha : Ev ta σ H (.ref a)) (h : H a = some (.dK kvs)) (hk : kvs.map (·.1) = ks.map Sum.inr) (hb : ∀ H', Same H H' → Ev tb σ H' (.ref c)) (hc : H c = some (.lst (os.map V.str)) ∨ H c = some (.tup (os.map V.str)))
    (hd : ∀ H', Same H H' → Ev tc σ H' (.ref b)) (h' : H b = some (.dK ivs)) (hk' : ivs.map (·.1) = is.map Sum.inr) (hl : (ks ++ os ++ is).length ≤ 100000) :
    EvL (tLst (tStarD ta (tStar K tb (tStarD tc tNil)))) σ H ((ks ++ os ++ is).map V.str) := fun Q q => by
  refine ha _ fun H1 e1 => ⟨a, kvs, rfl, .inl (e1 _ _ h), hb H1 e1 _ fun H2 e2 => ⟨c, os.map V.str, rfl, ?_, hd H2 (e1.trans e2) _ fun H3 e3 => ⟨b, ivs, rfl, .inl (e3 _ _ (e2 _ _ (e1 _ _ h'))), ?_⟩⟩⟩
  · rcases hc with hc | hc
    · exact .inr (SqL.of (e2 _ _ (e1 _ _ hc)))
    · exact .inl (SqT.of (e2 _ _ (e1 _ _ hc)))
  · have e : (kvs.map fun kv : Key × V => kV kv.1) ++ (os.map V.str ++ ((ivs.map fun kv : Key × V => kV kv.1) ++ [])) = (ks ++ os ++ is).map V.str := by
      have q1 := congrArg (List.map kV) hk
      rw [List.map_map, List.map_map] at q1
      have q2 := congrArg (List.map kV) hk'
      rw [List.map_map, List.map_map] at q2
      rw [List.append_nil, List.map_append, List.map_append, List.append_assoc]
      show List.map (kV ∘ fun x => x.1) kvs ++ (_ ++ List.map (kV ∘ fun x => x.1) ivs) = _
      rw [q1, q2]
      rfl
    show ((kvs.map fun kv : Key × V => kV kv.1) ++ (os.map V.str ++ ((ivs.map fun kv : Key × V => kV kv.1) ++ []))).length ≤ sizeLine ∧ _
    rw [e]
    exact ⟨sz (by rw [List.length_map]; exact hl), fun p hp => q p _ (e1.free (e2.free (e3.free hp))) ((e1.trans (e2.trans e3)).trans (same_upd hp)) upd_same⟩
/-- {f x: g x for x in a new list of texts}: the keys differ -/
theorem ek_dc {j : Nat} {vs : List Nat} {zs : List Str} {g : Str → V} (h : EvL tl σ H (zs.map V.str)) (hn : zs.Nodup) (hl : zs.length < 100000) (hw : ∀ x, wipe ((wipe σ vs).set j (some x)) vs = wipe σ vs)
    (hk : ∀ z H', z ∈ zs → Same H H' → Ev tk ((wipe σ vs).set j (some (.str z))) H' (.str z) ∧ Ev tv ((wipe σ vs).set j (some (.str z))) H' (g z)) :
    EvK (tDc (iList K tl) (gName j) tYes tk tv vs) σ H (zs.map fun z => (.inr z, g z)) := fun Q q => by
  refine h _ fun p H1 hp e1 hx => ⟨p, rfl, ⟨_, SqL.of hx⟩, fun D hD => ?_⟩
  have inj : ∀ i i', i < (zs.map V.str).length → i' < (zs.map V.str).length → ((zs[i]?.map Sum.inr).getD (.inl 0) : Key) = (zs[i']?.map Sum.inr).getD (.inl 0) → i = i' := fun i i' hi hi' e => by
    rw [List.length_map] at hi hi'
    rw [List.getElem?_eq_getElem hi, List.getElem?_eq_getElem hi'] at e
    exact (List.getElem_inj hn).mp (Sum.inr.inj (show (Sum.inr zs[i] : Key) = Sum.inr zs[i'] from e))
  refine dc_vals (walk_list (K := K) (a := p) (xs := zs.map V.str)) (fun i => (zs[i]?.map Sum.inr).getD (.inl 0)) (fun i => (zs[i]?.map g).getD .non) hD (by rw [List.length_map]; exact hl) (fun H2 e2 => SqL.of (e2 _ _ hx)) hw inj (fun i x H2 H3 hi e2 hy => ?_) (fun H2 e2 hl => q D H2 (e1.free hD) (e1.trans e2) ?_)
  · obtain ⟨rfl, hy⟩ := hy
    rw [List.getElem?_map] at hy
    obtain ⟨z, hz, rfl⟩ := Option.map_eq_some_iff.mp hy
    have hm := List.mem_of_getElem? hz
    refine ⟨Same.refl _, ?_, fun H4 e4 => ?_⟩
    · show Ev _ _ _ (kV (((zs[i]?).map Sum.inr).getD (.inl 0)))
      rw [hz]
      exact (hk z _ hm (e1.trans e2)).1
    · show Ev _ _ _ (((zs[i]?).map g).getD .non)
      rw [hz]
      exact (hk z _ hm (e1.trans (e2.trans e4))).2
  · rw [hl]
    congr 2
    rw [List.length_map]
    refine List.ext_getElem? fun i => ?_; rw [List.getElem?_map, List.getElem?_map]
    by_cases hi : i < zs.length
    · rw [List.getElem?_range hi, List.getElem?_eq_getElem hi]
      show some (_, _) = _
      rw [List.getElem?_eq_getElem hi]
      rfl
    · rw [List.getElem?_eq_none_iff.mpr (by rw [List.length_range]; omega), List.getElem?_eq_none_iff.mpr (by omega)]
      rfl
theorem valV_map {zs : List Str} {g : Str → V} {z : Str} (h : z ∈ zs) : valV (zs.map fun z => ((.inr z : Key), g z)) (.inr z) = some (g z) := by
  induction zs with
  | nil => cases h
  | cons y r ih =>
    show valV (((.inr y : Key), g y) :: _) _ = _
    rw [valV_cons]
    by_cases e : y = z
    · subst e
      rw [if_pos rfl]
    · rw [if_neg (fun q => e (Sum.inr.inj q))]
      exact ih ((List.mem_cons.mp h).resolve_left fun q => e q.symm)
end
abbrev Knots := List (Str × Rows)
def kd (ks : Knots) : List (Str × PyData) := ks.map fun p => (p.1, dRows p.2)
def kn (ks : Knots) : List Str := ks.map (·.1)
theorem kd_keys (ks : Knots) : (kd ks).map (·.1) = kn ks := by
  unfold kd kn
  rw [List.map_map]
  rfl
theorem kd_get {ks : Knots} {x : Str} {r : Rows} (hn : (kn ks).Nodup) (h : (x, r) ∈ ks) : (kd ks).lookup x = some (dRows r) := by
  induction ks with
  | nil => cases h
  | cons p t ih =>
    obtain ⟨h1, h2⟩ := List.nodup_cons.mp (show (p.1 :: kn t).Nodup from hn)
    show List.lookup x ((p.1, dRows p.2) :: kd t) = _
    rw [List.lookup_cons]; rcases List.mem_cons.mp h with e | m
    · subst e
      simp
    · have q : (x == p.1) = false := by
        simp only [beq_eq_false_iff_ne]
        intro e
        exact h1 (List.mem_map.mpr ⟨(x, r), m, e⟩)
      rw [q]
      exact ih h2 m
section
variable {P : Program} {w : World} {K : PySem.W.Frag} {mg : Str → Option Value} {base : Heap} {ad : Ad}
/-! ### check_rows -/
def spRows : Sp := fun vs H Q _ => ∃ (a c : Addr) (kv : List (Key × V)) (ks : Knots) (os : List Str), vs = [.ref a, .ref c] ∧ H a = some (.dK kv) ∧ Dk H kv (kd ks) ∧ (H c = some (.lst (os.map V.str)) ∨ H c = some (.tup (os.map V.str))) ∧
  (kn ks ++ os).Nodup ∧ (kn ks ++ os).length ≤ 1000 ∧ ks.length < 64 ∧ (∀ p ∈ ks, OkRows (fun x => x ∈ kn ks ++ os) p.2) ∧ ∀ H', Same H H' → Q .non H'
theorem scRows : FnScope ["knots", "outlets", "targets", "knot", "name"] ["knots", "outlets"] (defScope sRows) := ⟨rfl, rfl, rfl, by decide +kernel, rfl, by decide +kernel, by decide +kernel⟩
theorem ok_rows (T : Tx K mg ad) : FnOk P w K mg base CX0 5 ad.rows ad.dRows ["knots", "outlets"] spRows := by
  have GA : FnOk P w K mg base CX0 4 ad.areRows ad.dAreRows ["told", "targets"] spAreRows := ok_areRows T
  have bA := T.fAreRows.binds (ps := ["told", "targets"]) fun _ _ _ _ _ _ us hl => match us, hl with | [_, _], _ => rfl
  refine T.fRows.ok scRows (fun vs H Q E h => ?_) (fun cdv A outer s H vs Q E hr h => ?_)
  · obtain ⟨a, c, kv, ks, os, rfl, _⟩ := h
    rfl
  · obtain ⟨a, c, kv, ks, os, rfl, ha, hkv, hc, nd, few, f64, ok, k⟩ := h
    refine ⟨_, pss_cons (ps_setDc (i := 2) (own := [("name", 4)]) (g := gName 4) (tt := tYes) rfl scRows.nd rfl rfl (swD_true rfl rfl rfl (by decide +kernel)) (pi_list (pe_lst (pa_starD rfl (pv 0) (pa_star (pv 1) pa_nil)))) (blkOk_by (N := ["knots", "outlets", "targets", "knot", "name"]) (sc := defScope sRows) (by decide +kernel))
        (fun _ _ _ _ _ => pg_name (i := 4) scRows.nd rfl (Or.inl rfl)) (fun _ _ _ _ _ => pts_nil) (fun _ _ _ _ _ => pv 4) (fun _ _ _ _ _ => pe_bl))
      (pss_one (ps_for PassesOwn.never rfl (pi_list (pe_callB (call_sortedD rfl) (by rfl) T.sorted b_sorted (pa_cons (pv 0) pa_nil))) (pg_name (i := 3) scRows.nd rfl (.inl rfl))
        (pss_one (ps_if (pt_not (pt_val (pe_call GA hr (by rfl) T.gAreRows T.fAreRows.kp bA .nil pass0 (pa_cons (pe_dget (hu_of hr) (pv 0) (pv 3) (fun _ _ => rfl)) (pa_cons (pv 2) pa_nil))))) (pss_one ps_never) pss_nil)))), ?_⟩
    have hkeys : kv.map (·.1) = (kn ks).map Sum.inr := by rw [hkv.keys, kd_keys]
    refine q_asgK (ek_dc (K := K) (zs := kn ks ++ os) (g := fun _ => .bl true) (el_star2 (ev_tv rfl) ha hkeys (fun _ _ => ev_tv rfl) hc (by omega)) nd (by omega) (fun x => rfl) fun z H' _ _ => ⟨ev_tv rfl, ev_tc⟩) fun D H1 hD e1 hl => ?_
    have ht : Tgs H1 D (fun x => x ∈ kn ks ++ os) := ⟨_, hl, fun x hx => ⟨_, valV_map (g := fun _ => .bl true) hx⟩⟩
    refine s_forN (K := K) (el_sortedD (ev_tv rfl) (e1 _ _ ha) hkeys (by unfold kn; rw [List.length_map]; exact f64)) fun p2 H3 e3 hxs3 => ?_
    refine ⟨fun i σ H' => ∃ x, σ = [some (.ref a), some (.ref c), some (.ref D), x, none] ∧ Same H3 H', ⟨none, rfl, Same.refl _⟩, fun _ _ _ ⟨_, _, q⟩ => q, fun i x σ' H' hx p => ?_, fun σ' H' ⟨_, _, q⟩ => k H' (e1.trans (e3.trans q))⟩
    obtain ⟨x0, rfl, e4⟩ := p
    rw [List.getElem?_map] at hx
    obtain ⟨z, hz, rfl⟩ := Option.map_eq_some_iff.mp hx
    have hm : z ∈ kn ks := (srt_perm _).mem_iff.mp (List.mem_of_getElem? hz)
    obtain ⟨⟨z', r⟩, hm2, rfl⟩ := List.mem_map.mp hm
    obtain ⟨v, hv, hd⟩ := hkv.get (kd_get (List.nodup_append.mp nd).1 hm2)
    have e14 := e1.trans (e3.trans e4)
    refine s_no (EvB.not (EvB.of (b := true) (ev_call (ea_cons (ev_dget (k := .inr z') (ev_tv rfl) (fun _ _ => ev_tv rfl) (e14 _ _ ha) hv) fun _ _ => ea_cons (ev_tv rfl) fun _ _ => ea_nil) fun H5 e5 Q5 q5 => ⟨v, D, r, _, rfl, hd.go (e14.trans e5), ht.go (e3.trans (e4.trans e5)), ok _ hm2, q5⟩))) fun H5 e5 => ⟨_, rfl, e4.trans e5⟩
end
end Bc

namespace Bc
open PySem L2 PyProof.Rows StX
theorem same_unlock {H H' : Hp} {b : Addr} {u v : HO} (h : H b = some u) (e : Same (upd H b v) H') : Same H (upd H' b u) := fun x o q => by
  by_cases hx : x = b
  · subst hx
    rw [h] at q
    cases q
    exact upd_same
  · rw [upd_ne hx]
    exact e x o (by rw [upd_ne hx]; exact q)
/-- [e for x in t for y in x if test], t a tuple of tuples: what is kept, row by row -/
theorem el_lc2 {K : PySem.W.Frag} {tl : TE} {i0 i1 : Nat} {vs : List Nat} {tt : TT} {te : TE} {σ : L2.St} {H : Hp} {a : Addr} {xs : List V} {rows : List (List V)} {keep : V → Bool} (h : Ev tl σ H (.ref a)) (ha : H a = some (.tup xs))
    (hr : ∀ (i : Nat) (x : V), xs[i]? = some x → ∃ (b : Addr) (ys : List V), x = .ref b ∧ rows[i]? = some ys ∧ H b = some (.tup ys)) (hl : xs.length = rows.length) (few : rows.flatten.length < 100000)
    (hw0 : ∀ x, wipe ((wipe σ vs).set i0 (some x)) vs = wipe σ vs) (hw1 : ∀ x y, wipe ((wipe ((wipe σ vs).set i0 (some x)) [i1]).set i1 (some y)) [i1] = wipe ((wipe σ vs).set i0 (some x)) [i1])
    (hv : ∀ x, ((wipe σ vs).set i0 (some x))[i0]? = some (some x))
    (ht : ∀ x y H', (∃ ys ∈ rows, y ∈ ys) → Same H H' → EvB tt ((wipe ((wipe σ vs).set i0 (some x)) [i1]).set i1 (some y)) H' (keep y))
    (he : ∀ x y H', (∃ ys ∈ rows, y ∈ ys) → Same H H' → Ev te ((wipe ((wipe σ vs).set i0 (some x)) [i1]).set i1 (some y)) H' y) :
    EvL (tLc2 (iTup K tl) (gName i0) tYes (iTup K (tVar i0)) (gName i1) tt te vs [i1]) σ H (rows.flatten.filter keep) := fun Q q => by
  refine h _ fun H1 e1 => ⟨a, rfl, ⟨xs, SqT.of (e1 _ _ ha)⟩, fun D hD => ?_⟩
  refine ⟨fun i m H' => m = xs.length - i ∧ i ≤ xs.length ∧ Same H1 H' ∧ H' D = some (.lst ((rows.take i).flatten.filter keep)), ⟨xs.length, by simp, Nat.zero_le _, same_upd hD, upd_same⟩, ?_⟩
  rintro i m H' ⟨rfl, hi, e2, hd⟩
  have e12 := e1.trans e2
  by_cases hlt : i < xs.length
  · refine .inr ⟨⟨xs, xs[i], SqT.of (e12 _ _ ha), List.getElem?_eq_getElem hlt⟩, fun H'' => Same H1 H'' ∧ H'' D = some (.lst ((rows.take (i + 1)).flatten.filter keep)), fun H'' p => ⟨xs.length - (i + 1), by omega, rfl, hlt, p.1, p.2⟩, fun x H'' y => ?_⟩
    obtain ⟨rfl, y⟩ := y
    have hx := y xs (SqT.of (e12 _ _ ha))
    obtain ⟨b, ys, rfl, hrow, hb⟩ := hr i x hx
    refine ⟨hw0 _, ?_⟩
    refine ⟨.ref b, hv _, b, rfl, ⟨ys, SqT.of (e12 _ _ hb)⟩, ?_⟩
    refine ⟨fun j k H4 => k = ys.length - j ∧ j ≤ ys.length ∧ Same H1 H4 ∧ H4 D = some (.lst ((rows.take i).flatten.filter keep ++ (ys.take j).filter keep)), ⟨ys.length, by simp, Nat.zero_le _, e2, by simpa using hd⟩, ?_⟩
    rintro j k H4 ⟨rfl, hj, e3, hd4⟩
    have hb4 := e3 _ _ (e1 _ _ hb)
    by_cases hlt2 : j < ys.length
    · refine .inr ⟨⟨ys, ys[j], SqT.of hb4, List.getElem?_eq_getElem hlt2⟩, fun H5 => Same H1 H5 ∧ H5 D = some (.lst ((rows.take i).flatten.filter keep ++ (ys.take (j + 1)).filter keep)), fun H5 p => ⟨ys.length - (j + 1), by omega, rfl, hlt2, p.1, p.2⟩, fun y H5 yy => ?_⟩
      obtain ⟨rfl, yy⟩ := yy
      have hy := yy ys (SqT.of hb4)
      have hin : ∃ zs ∈ rows, y ∈ zs := ⟨ys, List.mem_of_getElem? hrow, List.mem_of_getElem? hy⟩
      refine ⟨hw1 _ _, ?_⟩
      refine ht _ y H5 hin (e1.trans e3) _ fun H6 e6 => ?_
      cases hk : keep y with
      | false =>
        refine iteF ⟨e3.trans e6, ?_⟩
        rw [e6 _ _ hd4, take_snoc hy, List.filter_append, List.filter_cons, hk]
        simp
      | true =>
        refine iteT (he _ y H6 hin (e1.trans (e3.trans e6)) _ fun H7 e7 => ⟨_, e7 _ _ (e6 _ _ hd4), szl ?_, Same.mut (e3.trans (e6.trans e7)) hD, ?_⟩)
        · have h1 : (rows.take i).flatten.length + ys.length ≤ rows.flatten.length := by
            have e : rows.flatten = (rows.take i).flatten ++ (ys ++ (rows.drop (i + 1)).flatten) := by
              have hi2 : i < rows.length := by omega
              have e0 : rows = rows.take i ++ (rows[i] :: rows.drop (i + 1)) := by rw [← List.drop_eq_getElem_cons hi2, List.take_append_drop]
              have e1 : rows[i] = ys := by
                rw [List.getElem?_eq_getElem hi2] at hrow
                exact Option.some.inj hrow
              rw [e1] at e0
              conv => lhs; rw [e0]
              rw [List.flatten_append, List.flatten_cons]
            rw [e, List.length_append, List.length_append]
            omega
          have h2 := List.length_filter_le keep (rows.take i).flatten
          have h3 := List.length_filter_le keep (ys.take j)
          rw [List.length_take] at h3
          rw [List.length_append]
          omega
        · rw [upd_same, take_snoc hy, List.filter_append, List.filter_cons, hk]
          simp
    · have e : j = ys.length := by omega
      subst e
      refine .inl ⟨⟨ys, SqT.of hb4, Nat.le_refl _⟩, e3, ?_⟩
      rw [hd4, List.take_length, take_snoc hrow, List.flatten_append, List.filter_append]
      simp
  · have e : i = xs.length := Nat.le_antisymm hi (Nat.le_of_not_lt hlt)
    subst e
    refine .inl ⟨⟨xs, SqT.of (e12 _ _ ha), Nat.le_refl _⟩, q D H' (e1.free hD) e12 ?_⟩
    rw [hd, hl, List.take_length]
end Bc

namespace Bc
open PySem L2 PyProof.Rows StX
/-- the inlets as data -/
abbrev Ins := List (Str × Str)
def id_ (is : Ins) : List (Str × PyData) := is.map fun p => (p.1, .str p.2)
theorem id_keys (is : Ins) : (id_ is).map (·.1) = is.map (·.1) := by
  unfold id_
  rw [List.map_map]
  rfl
theorem Dk.at {H : Hp} : ∀ {kvs : List (Key × V)} {ds : List (Str × PyData)} {i : Nat} {x : Str} {d : PyData}, Dk H kvs ds → ds[i]? = some (x, d) → ∃ v, kvs[i]? = some (.inr x, v) ∧ Dt H v d
  | _, _, _, _, _, .nil, e => by simp at e
  | _, _, 0, _, _, .cons h _, e => by simp at e; obtain ⟨rfl, rfl⟩ := e; exact ⟨_, rfl, h⟩
  | _, _, i + 1, x, d, .cons _ k, e => by
    obtain ⟨v, h1, h2⟩ := Dk.at (i := i) k (by simpa using e)
    exact ⟨v, by simpa using h1, h2⟩
section
variable {P : Program} {w : World} {K : PySem.W.Frag} {mg : Str → Option Value} {base : Heap} {ad : Ad}
/-- succ: the knots in the drops of a knot's turn -/
def succ (ks : Knots) (r : Rows) : List Str := r.2.flatten.filter fun x => decide (x ∈ kn ks)
theorem kd_none {ks : Knots} {x : Str} (h : x ∉ kn ks) : (kd ks).lookup x = none := by
  induction ks with
  | nil => rfl
  | cons p t ih =>
    show List.lookup x ((p.1, dRows p.2) :: kd t) = _
    have q : (x == p.1) = false := by
      simp only [beq_eq_false_iff_ne]
      intro e
      exact h (by rw [e]; exact List.mem_cons_self)
    rw [List.lookup_cons, q]
    exact ih fun m => h (List.mem_cons_of_mem _ m)
theorem kd_isSome {H : Hp} {kv : List (Key × V)} {ks : Knots} {x : Str} (hkv : Dk H kv (kd ks)) (hn : (kn ks).Nodup) : (valV kv (.inr x)).isSome = decide (x ∈ kn ks) := by
  by_cases h : x ∈ kn ks
  · obtain ⟨⟨x', r⟩, hm, rfl⟩ := List.mem_map.mp h
    obtain ⟨v, hv, _⟩ := hkv.get (kd_get hn hm)
    rw [hv, decide_eq_true h]
    rfl
  · rw [hkv.none (kd_none h), decide_eq_false h]
    rfl
def spMet : Sp := fun vs H Q _ => ∃ (a : Addr) (x : Str) (kv : List (Key × V)) (ks : Knots) (r : Rows), vs = [.ref a, .str x] ∧ H a = some (.dK kv) ∧ Dk H kv (kd ks) ∧ (kn ks).Nodup ∧ (x, r) ∈ ks ∧ r.2.flatten.length ≤ 1000 ∧
  ∀ p H', H p = none → Same H H' → H' p = some (.lst ((succ ks r).map V.str)) → Q (.ref p) H'
theorem scMet : FnScope ["knots", "knot", "target", "drop"] ["knots", "knot"] (defScope sMet) := ⟨rfl, rfl, rfl, by decide +kernel, rfl, by decide +kernel, by decide +kernel⟩
theorem map_str_filter (l : List Str) (p : Str → Bool) (q : V → Bool) (h : ∀ x, q (.str x) = p x) : (l.map V.str).filter q = (l.filter p).map V.str := by
  induction l with
  | nil => rfl
  | cons x r ih =>
    rw [List.map_cons, List.filter_cons, List.filter_cons, h x, ih]
    cases p x <;> rfl
theorem ok_met (T : Tx K mg ad) : FnOk P w K mg base CX0 2 ad.met ad.dMet ["knots", "knot"] spMet := by
  refine T.fMet.ok scMet (fun vs H Q E h => ?_) (fun cdv A outer s H vs Q E hr h => ?_)
  · obtain ⟨a, x, kv, ks, r, rfl, _⟩ := h
    rfl
  · obtain ⟨a, x, kv, ks, r, rfl, ha, hkv, hn, hm, few, k⟩ := h
    refine ⟨_, pss_one (ps_ret (pe_lc2 (own := [("drop", 3), ("target", 2)]) (vs1 := [2]) (g := gName 3) (tt := tYes) (wi1 := iTup K (tVar 3)) (g1 := gName 2) rfl scMet.nd (pi_tup (pe_ix ix_tup (pe_dget (hu_of hr) (pv 0) (pv 1) (fun _ _ => rfl)) pe_int (fun _ _ => rfl)))
        (blkOk_by (N := ["knots", "knot", "target", "drop"]) (sc := defScope sMet) (by decide +kernel)) (by decide) (fun _ _ _ _ _ => pg_name (i := 3) scMet.nd rfl (Or.inl rfl)) (fun _ _ _ _ _ => pts_nil) (fun _ _ _ _ _ => pi_tup (pv 3)) (fun _ _ _ _ _ => pg_name (i := 2) scMet.nd rfl (Or.inl rfl))
        (fun _ _ _ _ _ => pts_one (pt_cmp (pc_din (hu_of hr) (pv 2) (pv 0)))) (fun _ _ _ _ _ => pv 2))), ?_⟩
    obtain ⟨v, hv, hd⟩ := hkv.get (kd_get hn hm)
    cases hd with
    | @tup b xs _ hb hx =>
    cases hx with
    | cons hf hx =>
    rename_i vf xs
    cases hx with
    | cons ht' hx =>
    rename_i vt xs
    cases hx
    cases ht' with
    | @tup c xs _ hc hx =>
    show tLc2 _ _ _ _ _ _ _ _ _ _ _ _
    have key := el_lc2 (K := K) (tl := tOp (rIxT K) (tDGet (tVar 0) (tVar 1)) (tC (.int 1))) (i0 := 3) (i1 := 2) (vs := [3, 2]) (tt := tB (tDIn (tVar 2) (tVar 0))) (te := tVar 2) (σ := [some (.ref a), some (.str x), none, none]) (H := H) (a := c) (xs := xs) (rows := r.2.map fun d => d.map V.str) (keep := fun y => match y with | .str z => decide (z ∈ kn ks) | _ => false)
      (fun Q q => ev_dget (k := .inr x) (ev_tv rfl) (fun _ _ => ev_tv rfl) ha hv _ fun H1 e1 => ⟨b, [vf, .ref c], 1, .ref c, rfl, rfl, SqT.of (e1 _ _ hb), atI_nat (by rfl), q H1 e1⟩) hc
      (fun i y hy => by
        obtain ⟨d, h1, h2⟩ := hx.getV hy
        rw [List.getElem?_map] at h1
        obtain ⟨dr, h3, rfl⟩ := Option.map_eq_some_iff.mp h1
        cases h2 with
        | @tup e zs _ he hz =>
        have ez := Dts.of_strs hz
        subst ez
        exact ⟨e, _, rfl, by rw [List.getElem?_map, h3]; rfl, he⟩)
      (by rw [hx.length, List.length_map, List.length_map]) (by rw [← List.map_flatten, List.length_map]; omega) (fun _ => rfl) (fun _ _ => rfl) (fun _ => rfl)
      (fun y z H' hz e => by
        obtain ⟨ys, h1, h2⟩ := hz
        obtain ⟨dr, h3, rfl⟩ := List.mem_map.mp h1
        obtain ⟨t, h4, rfl⟩ := List.mem_map.mp h2
        exact evb_is (EvB.of (ev_inD (k := .inr t) (ev_tv rfl) (fun _ _ => ev_tv rfl) (e _ _ ha))) (kd_isSome hkv hn))
      (fun y z H' hz e => ev_tv rfl)
    refine key _ fun p H' hp e hl => k p H' hp e ?_
    rw [hl, ← List.map_flatten, map_str_filter _ _ _ fun _ => rfl]
    rfl
/-! ### check_inlets -/
def spInlets : Sp := fun vs H Q _ => ∃ (a b : Addr) (kv iv : List (Key × V)) (ks : Knots) (is : Ins), vs = [.ref a, .ref b] ∧ a ≠ b ∧ H a = some (.dK kv) ∧ Dk H kv (kd ks) ∧ (kn ks).Nodup ∧ H b = some (.dK iv) ∧ Dk H iv (id_ is) ∧ (∀ p ∈ is, p.2 ∈ kn ks) ∧ ∀ H', Same H H' → Q .non H'
theorem scInlets : FnScope ["knots", "inlets", "inlet", "knot"] ["knots", "inlets"] (defScope sInlets) := ⟨rfl, rfl, rfl, by decide +kernel, rfl, by decide +kernel, by decide +kernel⟩
theorem ok_inlets (T : Tx K mg ad) : FnOk P w K mg base CX0 2 ad.inlets ad.dInlets ["knots", "inlets"] spInlets := by
  refine T.fInlets.ok scInlets (fun vs H Q E h => ?_) (fun cdv A outer s H vs Q E hr h => ?_)
  · obtain ⟨a, b, kv, iv, ks, is, rfl, _⟩ := h
    rfl
  · obtain ⟨a, b, kv, iv, ks, is, rfl, ne, ha, hkv, hn, hb, hiv, ok, k⟩ := h
    refine ⟨_, pss_one (ps_lock (ps_for PassesOwn.never rfl (pi_items (pv 1)) (pg_tup (by rfl) (pgs_cons (pg_name (i := 2) scInlets.nd rfl (.inl rfl)) (pgs_cons (pg_name (i := 3) scInlets.nd rfl (.inl rfl)) pgs_nil)))
      (pss_one (ps_if (PW.pt (pw_or (pt_not (pt_val (pe_isi rfl T.isinstance (pv 3) (pe_ty T.str b_str)))) (pw_or1 (pt_cmp (pc_dnotin (hu_of hr) (pv 3) (pv 0)))))) (pss_one ps_never) pss_nil)))), ?_⟩
    refine ⟨b, _, hb, True.intro, fun od => ?_⟩
    refine ⟨_, rfl, b, od, iv, rfl, upd_same, ?_⟩
    refine for_it (walk_items (d := b) (o := od) (kvs := iv)) (fun i σ H' => (∃ x y, σ = [some (.ref a), some (.ref b), x, y]) ∧ Same (upd H b (.frz od (.dK iv))) H') ⟨⟨none, none, rfl⟩, Same.refl _⟩ (fun i σ H' _ p => p.2 _ _ upd_same) (fun i x σ H1 H2 hi p y => ?_) (fun σ H' p => ?_)
    · obtain ⟨⟨x0, y0, rfl⟩, e1⟩ := p
      obtain ⟨t, u, v, rfl, ht, rfl, hu, hv⟩ := y
      obtain ⟨p, hp, rfl⟩ := Option.map_eq_some_iff.mp hu
      replace hv : iv[i]?.map Prod.snd = some v := hv
      rw [hp] at hv
      obtain rfl : p.2 = v := Option.some.inj hv
      have hlen : i < (id_ is).length := by rw [← hiv.length]; exact hi
      obtain ⟨q, hq⟩ : ∃ q, (id_ is)[i]? = some q := ⟨_, List.getElem?_eq_getElem hlen⟩
      obtain ⟨x, d⟩ := q
      obtain ⟨v2, h1, h2⟩ := hiv.at hq
      rw [hp] at h1
      obtain rfl : p = (.inr x, v2) := Option.some.inj h1
      unfold id_ at hq
      rw [List.getElem?_map] at hq
      obtain ⟨⟨x', z⟩, h3, h4⟩ := Option.map_eq_some_iff.mp hq
      obtain ⟨rfl, rfl⟩ : x' = x ∧ PyData.str z = d := by
        injection h4 with h5 h6
        exact ⟨h5, h6⟩
      cases h2
      have hz := ok _ (List.mem_of_getElem? h3)
      refine ⟨t, _, rfl, SqT.of upd_same, rfl, _, _, rfl, _, _, rfl, rfl, ?_⟩
      have e2 := e1.trans (same_upd (o := HO.tup [V.str x', V.str z]) ht)
      have ha2 : (upd H b (.frz od (.dK iv))) a = some (.dK kv) := by rw [upd_ne ne]; exact ha
      refine s_no (evb_is (EvB.or (EvB.not (EvB.of (ev_isStr (z := z) (ev_tv rfl)))) fun _ H4 e4 => EvB.of (ev_notInD (k := .inr z) (ev_tv rfl) (fun _ _ => ev_tv rfl) (e4 _ _ (e2 _ _ ha2)))) ?_) fun H5 e5 => ⟨⟨_, _, rfl⟩, e2.trans e5⟩
      rw [kd_isSome hkv hn]
      simp [hz]
    · obtain ⟨⟨x0, y0, rfl⟩, e1⟩ := p
      exact ⟨e1 _ _ upd_same, k _ (same_unlock hb e1)⟩
end
end Bc

namespace Bc
open PySem L2 PyProof.Rows StX
theorem nodup_len : ∀ {l m : List Str}, l.Nodup → (∀ x ∈ l, x ∈ m) → l.length ≤ m.length
  | [], _, _, _ => by exact Nat.zero_le _
  | a :: l, m, hn, hs => by
    obtain ⟨h1, h2⟩ := List.nodup_cons.mp hn; have hm := hs a List.mem_cons_self
    have ih := nodup_len (l := l) (m := m.erase a) h2 fun x hx => by
      have q := hs x (List.mem_cons_of_mem _ hx)
      have ne : x ≠ a := fun e => h1 (e ▸ hx)
      exact (List.mem_erase_of_ne ne).mpr q
    have e := List.length_erase_of_mem hm
    have pos : 0 < m.length := List.length_pos_of_mem hm
    rw [List.length_cons]
    omega
/-- a dict with just these keys -/
def Led (H : Hp) (d : Addr) (zs : List Str) : Prop := ∃ L : List (Key × V), H d = some (.dK L) ∧ L.map (·.1) = zs.map Sum.inr
theorem led_mem {zs : List Str} {x : Str} : ∀ {L : List (Key × V)}, L.map (·.1) = zs.map Sum.inr → (valV L (.inr x)).isSome = decide (x ∈ zs) := by
  induction zs with
  | nil =>
    intro L h
    have : L = [] := List.map_eq_nil_iff.mp h
    subst this
    rfl
  | cons z r ih =>
    intro L h
    cases L with
    | nil => cases h
    | cons p t =>
      obtain ⟨k, v⟩ := p
      have h1 : k = Sum.inr z := (List.cons.inj h).1
      have h2 : t.map (·.1) = r.map Sum.inr := (List.cons.inj h).2
      subst h1
      rw [valV_cons]
      by_cases e : z = x
      · subst e
        rw [if_pos rfl]
        simp
      · rw [if_neg fun q => e (Sum.inr.inj q), ih h2]
        have e2 : ¬ x = z := fun q => e q.symm
        simp [e2]
theorem led_put {zs : List Str} {x : Str} {L : List (Key × V)} {v : V} (h : L.map (·.1) = zs.map Sum.inr) (hx : x ∉ zs) : (putK L (.inr x) v).map (·.1) = (zs ++ [x]).map Sum.inr := by
  have e := led_mem (x := x) h
  rw [decide_eq_false hx] at e
  have e2 : valV L (.inr x) = none := by
    cases q : valV L (.inr x) with
    | none => rfl
    | some u =>
      rw [q] at e
      cases e
  rw [putK_new _ e2, List.map_append, List.map_append, h]
  rfl
theorem led_len {zs : List Str} {L : List (Key × V)} (h : L.map (·.1) = zs.map Sum.inr) : L.length = zs.length := by
  have := congrArg List.length h; rw [List.length_map, List.length_map] at this
  exact this
/-- a for over a new list, its turns change other things -/
theorem s_forM {K : PySem.W.Frag} {tl : TE} {j : Nat} {tb : TS} {D : Ends} {σ : L2.St} {H : Hp} {xs : List V} (h : EvL tl σ H xs)
    (k : ∀ p H1, H p = none → Same H H1 → H1 p = some (.lst xs) → ∃ Pv : Nat → L2.St → Hp → Prop, Pv 0 σ H1 ∧ (∀ i σ' H', Pv i σ' H' → H' p = some (.lst xs)) ∧
      (∀ i x σ' H', xs[i]? = some x → Pv i σ' H' → tb { D with nx := Pv (i + 1), ct := Pv (i + 1), bk := D.nx } (σ'.set j (some x)) H') ∧ ∀ σ' H', Pv xs.length σ' H' → D.nx σ' H') : tFor (iList K tl) (gName j) tb D σ H := by
  refine h _ fun p H1 hp e1 hx => ⟨p, rfl, ⟨xs, SqL.of hx⟩, ?_⟩
  obtain ⟨Pv, h0, hG, hs, hd⟩ := k p H1 hp e1 hx
  exact for_it (walk_list (K := K) (a := p) (xs := xs)) Pv h0 (fun i σ' H' _ q => SqL.of (hG i σ' H' q)) (fun i x σ' H2 H3 hi q y => by
    obtain ⟨rfl, hy⟩ := y
    exact hs i x σ' _ hy q) hd
theorem q_forM {K : PySem.W.Frag} {tl : TE} {j : Nat} {tb u : TS} {D : Ends} {σ : L2.St} {H : Hp} {xs : List V} (h : EvL tl σ H xs)
    (k : ∀ p H1, H p = none → Same H H1 → H1 p = some (.lst xs) → ∃ Pv : Nat → L2.St → Hp → Prop, Pv 0 σ H1 ∧ (∀ i σ' H', Pv i σ' H' → H' p = some (.lst xs)) ∧
      (∀ i x σ' H', xs[i]? = some x → Pv i σ' H' → tb { D with nx := Pv (i + 1), ct := Pv (i + 1), bk := u D } (σ'.set j (some x)) H') ∧ ∀ σ' H', Pv xs.length σ' H' → u D σ' H') : tSeq (tFor (iList K tl) (gName j) tb) u D σ H := s_forM (D := { D with nx := u D }) h k
/-- the same over a list that stands in a slot -/
theorem q_forV {K : PySem.W.Frag} {tl : TE} {j : Nat} {tb u : TS} {D : Ends} {σ : L2.St} {H : Hp} {p : Addr} {xs : List V} (h : Ev tl σ H (.ref p)) (hx : H p = some (.lst xs)) (Pv : Nat → L2.St → Hp → Prop) (h0 : ∀ H', Same H H' → Pv 0 σ H') (hG : ∀ i σ' H', Pv i σ' H' → H' p = some (.lst xs))
      (hs : ∀ i x σ' H', xs[i]? = some x → Pv i σ' H' → tb { D with nx := Pv (i + 1), ct := Pv (i + 1), bk := u D } (σ'.set j (some x)) H') (hd : ∀ σ' H', Pv xs.length σ' H' → u D σ' H') : tSeq (tFor (iList K tl) (gName j) tb) u D σ H :=
  h _ fun H1 e1 => ⟨p, rfl, ⟨xs, SqL.of (e1 _ _ hx)⟩, for_it (walk_list (K := K) (a := p) (xs := xs)) Pv (h0 H1 e1) (fun i σ' H' _ q => SqL.of (hG i σ' H' q)) (fun i x σ' H2 H3 hi q y => by
    obtain ⟨rfl, hy⟩ := y
    exact hs i x σ' _ hy q) hd⟩
/-- while xs: .., the list in a slot -/
theorem q_whileL {K : PySem.W.Frag} {i : Nat} {tb u : TS} {D : Ends} {σ : L2.St} {H : Hp} (W : Nat → L2.St → Hp → Prop) (m0 : Nat) (h0 : W m0 σ H)
    (hs : ∀ m σ' H', W m σ' H' → ∃ q xs, σ'[i]? = some (some (.ref q)) ∧ H' q = some (.lst xs) ∧ (xs ≠ [] → tb { D with nx := fun σ2 H2 => ∃ m', m' < m ∧ W m' σ2 H2, ct := fun σ2 H2 => ∃ m', m' < m ∧ W m' σ2 H2, bk := u D } σ' H') ∧ (xs = [] → u D σ' H')) :
    tSeq (tWhile (fun σ H Q => tVar i σ H fun x H' => ∃ k, TruV K x H' k ∧ Q k H') tb) u D σ H := by
  refine ⟨W, ⟨m0, h0⟩, fun m σ' H' hw => ?_⟩
  obtain ⟨q, xs, h1, h2, h3, h4⟩ := hs m σ' H' hw
  refine ⟨.ref q, h1, !xs.isEmpty, .inl ⟨xs, SqL.of h2, rfl⟩, ?_⟩
  cases xs with
  | nil => exact iteF (h4 rfl)
  | cons x r => exact iteT ⟨fun σ2 H2 => ∃ m', m' < m ∧ W m' σ2 H2, fun _ _ z => z, h3 fun z => nomatch z⟩
theorem s_app {K : PySem.W.Frag} {ta te : TE} {D : Ends} {σ : L2.St} {H : Hp} {l : Addr} {xs : List V} {v : V} (hl : H l = some (.lst xs)) (ha : Ev ta σ H (.ref l)) (hv : ∀ H', Same H H' → Ev te σ H' v) (hz : xs.length < 100000)
    (k : ∀ H', Same H H' → D.nx σ (upd H' l (.lst (xs ++ [v])))) : tDrop (tBM K "list" rAppend ta (tCons te tNil)) D σ H :=
  ha _ fun H1 e1 => ⟨.inl ⟨rfl, xs, SqL.of (e1 _ _ hl)⟩, hv H1 e1 _ fun H2 e2 => ⟨l, xs, v, rfl, rfl, e2 _ _ (e1 _ _ hl), szl hz, k H2 (e1.trans e2)⟩⟩
theorem el_nil {σ : L2.St} {H : Hp} : EvL (tLst tNil) σ H [] := fun Q q => ⟨Nat.zero_le _, fun p hp => q p _ hp (same_upd hp) upd_same⟩
theorem el_call {sp : Sp} {E : XK} {t : TA} {σ : L2.St} {H : Hp} {vs xs : List V} (h : EvA t σ H vs) (k : ∀ H', Same H H' → ∀ Q : VK, (∀ p H2, H' p = none → Same H' H2 → H2 p = some (.lst xs) → Q (.ref p) H2) → sp (vs ++ []) H' Q E) : EvL (tCall sp [] E t) σ H xs := fun Q q =>
  h _ fun H' e => k H' e Q fun p H2 hp e2 hx => q p H2 (e.free hp) (e.trans e2) hx
abbrev inn (is : Ins) : List Str := is.map fun p => p.1
/-- what is met is closed -/
structure Closed (ks : Knots) (is : Ins) (zs : List Str) : Prop where
  start : ∀ p ∈ is, p.2 ∈ zs
  next : ∀ x r, (x, r) ∈ ks → x ∈ zs → ∀ t ∈ succ ks r, t ∈ zs
structure NetIn (H : Hp) (a b : Addr) (kv iv : List (Key × V)) (ks : Knots) (is : Ins) : Prop where
  ne : a ≠ b
  ha : H a = some (.dK kv)
  hkv : Dk H kv (kd ks)
  kn : (kn ks).Nodup
  klen : ks.length < 60
  turns : ∀ p ∈ ks, p.2.2.flatten.length ≤ 1000
  hb : H b = some (.dK iv)
  hiv : Dk H iv (id_ is)
  inn : (inn is).Nodup
  ilen : is.length < 60
  leads : ∀ p ∈ is, p.2 ∈ Bc.kn ks
theorem NetIn.go {H H' : Hp} {a b : Addr} {kv iv : List (Key × V)} {ks : Knots} {is : Ins} (n : NetIn H a b kv iv ks is) (e : Same H H') : NetIn H' a b kv iv ks is :=
  ⟨n.ne, e _ _ n.ha, n.hkv.go e, n.kn, n.klen, n.turns, e _ _ n.hb, n.hiv.go e, n.inn, n.ilen, n.leads⟩
section
variable {P : Program} {w : World} {K : PySem.W.Frag} {mg : Str → Option Value} {base : Heap} {ad : Ad}
def spLeaders : Sp := fun vs H Q _ => ∃ (a b : Addr) (kv iv : List (Key × V)) (ks : Knots) (is : Ins), vs = [.ref a, .ref b] ∧ NetIn H a b kv iv ks is ∧
  ∀ p H' zs, H p = none → Same H H' → Led H' p zs → Closed ks is zs → Q (.ref p) H'
theorem scLeaders : FnScope ["knots", "inlets", "led", "inlet", "near", "far", "knot", "target"] ["knots", "inlets"] (defScope sLeaders) := ⟨rfl, rfl, rfl, by decide +kernel, rfl, by decide +kernel, by decide +kernel⟩
theorem id_get {is : Ins} {x : Str} (hn : (inn is).Nodup) : ∀ {z : Str}, (x, z) ∈ is → (id_ is).lookup x = some (.str z) := by
  induction is with
  | nil => intro z h; cases h
  | cons p t ih =>
    intro z h
    obtain ⟨h1, h2⟩ := List.nodup_cons.mp (show (p.1 :: t.map (·.1)).Nodup from hn)
    show List.lookup x ((p.1, PyData.str p.2) :: id_ t) = _
    rw [List.lookup_cons]; rcases List.mem_cons.mp h with e | m
    · subst e
      simp
    · have q : (x == p.1) = false := by
        simp only [beq_eq_false_iff_ne]
        intro e
        exact h1 (List.mem_map.mpr ⟨(x, z), m, e⟩)
      rw [q]
      exact ih h2 m
theorem kn_one {ks : Knots} {x : Str} {r r' : Rows} (hn : (kn ks).Nodup) (h : (x, r) ∈ ks) (h' : (x, r') ∈ ks) : r = r' := by
  induction ks with
  | nil => cases h
  | cons p t ih =>
    obtain ⟨h1, h2⟩ := List.nodup_cons.mp (show (p.1 :: kn t).Nodup from hn); rcases List.mem_cons.mp h with e | m
    · rcases List.mem_cons.mp h' with e' | m'
      · rw [← e'] at e
        exact (Prod.mk.inj e).2
      · exact absurd (List.mem_map.mpr ⟨_, m', by rw [← e]⟩) h1
    · rcases List.mem_cons.mp h' with e' | m'
      · exact absurd (List.mem_map.mpr ⟨_, m, by rw [← e']⟩) h1
      · exact ih h2 m m'
theorem Led.go {H H' : Hp} {d : Addr} {zs : List Str} (h : Led H d zs) (e : Same H H') : Led H' d zs := let ⟨L, h1, h2⟩ := h; ⟨L, e _ _ h1, h2⟩
theorem Led.upd {H : Hp} {d p : Addr} {zs : List Str} {o : HO} (h : Led H d zs) (ne : d ≠ p) : Led (L2.upd H p o) d zs := let ⟨L, h1, h2⟩ := h; ⟨L, by rw [upd_ne ne]; exact h1, h2⟩
theorem ok_leaders (T : Tx K mg ad) : FnOk P w K mg base CX0 3 ad.leaders ad.dLeaders ["knots", "inlets"] spLeaders := by
  have GM : FnOk P w K mg base CX0 2 ad.met ad.dMet ["knots", "knot"] spMet := ok_met T
  have bM := T.fMet.binds (ps := ["knots", "knot"]) fun _ _ _ _ _ _ us hl => match us, hl with | [_, _], _ => rfl
  refine T.fLeaders.ok scLeaders (fun vs H Q E h => ?_) (fun cdv A outer s H vs Q E hr h => ?_)
  · obtain ⟨a, b, kv, iv, ks, is, rfl, _⟩ := h
    rfl
  · obtain ⟨a, b, kv, iv, ks, is, rfl, N, k⟩ := h
    refine ⟨_, pss_cons (ps_set (i := 2) scLeaders.nd rfl (.inl rfl) pe_dnewK)
      (pss_cons (ps_for PassesOwn.never rfl (pi_list (pe_callB (call_sortedD rfl) (by rfl) T.sorted b_sorted (pa_cons (pv 1) pa_nil))) (pg_name (i := 3) scLeaders.nd rfl (.inl rfl)) (pss_one (ps_expr (pe_dsetd (pv 2) (pe_dget (hu_of hr) (pv 1) (pv 3) (fun _ _ => rfl)) (pv 3) ⟨rfl, rfl, rfl, rfl⟩))))
      (pss_cons (ps_set (i := 4) scLeaders.nd rfl (.inl rfl) (pe_callTy (call_listD rfl) (by rfl) T.list b_list (pa_cons (pv 2) pa_nil)))
      (pss_cons (ps_while PassesOwn.never (pt_truth (pv 4) (by intro _; rfl))
        (pss_cons (ps_set (i := 5) scLeaders.nd rfl (.inl rfl) (pe_lst pa_nil))
        (pss_cons (ps_for PassesOwn.never rfl (pi_list (pv 4)) (pg_name (i := 6) scLeaders.nd rfl (.inl rfl))
          (pss_one (ps_for PassesOwn.never rfl (pi_list (pe_call GM hr (by rfl) T.gMet T.fMet.kp bM .nil pass0 (pa_cons (pv 0) (pa_cons (pv 6) pa_nil)))) (pg_name (i := 7) scLeaders.nd rfl (.inl rfl))
            (pss_one (ps_if (pt_cmp (pc_dnotin (hu_of hr) (pv 7) (pv 2))) (pss_cons (ps_dput (hu_of hr) (pv 2) (pv 7) (pv 6) rfl)
              (pss_one (ps_expr (pe_bm PySem.F.plainAttrs_list PySem.F.slot_list_append PySem.F.type_list_append mt_append (pv 5) (pa_cons (pv 7) pa_nil))))) pss_nil)))))
        (pss_one (ps_set (i := 4) scLeaders.nd rfl (.inl rfl) (pv 5))))))
      (pss_one (ps_ret (pv 2)))))), ?_⟩
    have hik : iv.map (·.1) = (inn is).map Sum.inr := by rw [N.hiv.keys, id_keys]
    refine q_dnew fun d hd => ?_
    have sd : Same H (upd H d (.dK [])) := same_upd hd
    refine q_forM (K := K) (el_sortedD (ev_tv rfl) (sd _ _ N.hb) hik (by rw [List.length_map]; have := N.ilen; omega)) fun p1 H1 hp1n e1 hp1 => ?_
    have ne1 : d ≠ p1 := ne_of (e1 _ _ upd_same) hp1 (by intro z; cases z)
    refine ⟨fun i σ H' => ∃ zs x, σ = [some (.ref a), some (.ref b), some (.ref d), x, none, none, none, none] ∧ Same H H' ∧ H' p1 = some (.lst ((srt (inn is)).map V.str)) ∧ Led H' d zs ∧ zs.Nodup ∧ (∀ z ∈ zs, z ∈ kn ks) ∧ ∀ p ∈ is, p.1 ∈ (srt (inn is)).take i → p.2 ∈ zs,
      ⟨[], none, rfl, sd.trans e1, hp1, ⟨[], e1 _ _ upd_same, rfl⟩, List.nodup_nil, (fun _ h => nomatch h), (fun _ _ h => nomatch h)⟩, fun i σ' H' ⟨_, _, _, _, q, _⟩ => q, fun i x σ' H' hx p => ?_, fun σ' H' p => ?_⟩
    · obtain ⟨zs, x0, rfl, e2, hl, hled, hnd, hsub, hdone⟩ := p
      rw [List.getElem?_map] at hx
      obtain ⟨z, hz, rfl⟩ := Option.map_eq_some_iff.mp hx
      have hm : z ∈ inn is := (srt_perm _).mem_iff.mp (List.mem_of_getElem? hz)
      obtain ⟨⟨z', y⟩, hm2, rfl⟩ := List.mem_map.mp hm
      obtain ⟨v, hv, hdt⟩ := N.hiv.get (id_get N.inn hm2)
      cases hdt
      obtain ⟨L, hL, hLk⟩ := hled
      have hy := N.leads _ hm2
      have hlen := nodup_len hnd hsub
      have kl : (kn ks).length = ks.length := List.length_map _
      have hk := N.klen
      have one : ∀ p ∈ is, p.1 ∈ (srt (inn is)).take (i + 1) → p.1 ∈ (srt (inn is)).take i ∨ p = (z', y) := fun p hp hq => by
        rw [take_snoc hz] at hq
        rcases List.mem_append.mp hq with q | q
        · exact .inl q
        · refine .inr ?_
          have e : p.1 = z' := List.mem_singleton.mp q
          obtain ⟨p1', p2'⟩ := p
          have e' : p1' = z' := e
          subst e'
          have q1 := id_get N.inn hp
          rw [id_get N.inn hm2] at q1
          injection q1 with q1
          injection q1 with q1
          rw [q1]
      refine ⟨_, rfl, d, rfl, .inl ⟨L, .inl hL⟩, _, rfl, _, rfl, b, _, rfl, by have z := DGet.k (k := .inr z') (e2 _ _ N.hb); rw [hv] at z; exact z, _, rfl, L, .inr y, hL, rfl, szl (by rw [led_len hLk]; omega), fun w hw => ?_, fun hw => ?_⟩
      · have hyz : y ∈ zs := by
          have q := led_mem (x := y) hLk
          rw [hw] at q
          exact of_decide_eq_true q.symm
        exact ⟨zs, _, rfl, e2, hl, ⟨L, hL, hLk⟩, hnd, hsub, fun p hp hq => (one p hp hq).elim (fun q => hdone p hp q) fun q => by rw [q]; exact hyz⟩
      · have hyz : y ∉ zs := fun m => by
          have q := led_mem (x := y) hLk
          rw [hw, decide_eq_true m] at q
          cases q
        refine ⟨zs ++ [y], _, rfl, Same.mut e2 hd, by rw [upd_ne ne1.symm]; exact hl, ⟨_, upd_same, led_put hLk hyz⟩, nd_snoc hnd hyz, fun z hz => ?_, fun p hp hq => (one p hp hq).elim (fun q => List.mem_append_left _ (hdone p hp q)) fun q => by rw [q]; exact List.mem_append_right _ (List.mem_singleton.mpr rfl)⟩
        rcases List.mem_append.mp hz with q | q
        · exact hsub z q
        · rw [List.mem_singleton.mp q]
          exact hy
    · obtain ⟨zs0, x0, rfl, e2, _, hled0, hnd0, hsub0, hdone0⟩ := p
      have start0 : ∀ p ∈ is, p.2 ∈ zs0 := fun p hp => hdone0 p hp (by
        rw [List.length_map, List.take_length]
        exact (srt_perm _).mem_iff.mpr (List.mem_map.mpr ⟨p, hp, rfl⟩))
      obtain ⟨L0, hL0, hLk0⟩ := hled0
      -- near = list(led)
      refine ⟨_, rfl, d, L0, rfl, .inl hL0, fun nr hnr => ?_⟩
      have en : (L0.map fun kv : Key × V => kV kv.1) = zs0.map V.str := by
        have q := congrArg (List.map kV) hLk0
        rw [List.map_map, List.map_map] at q
        exact q
      rw [en]
      have nr0 : d ≠ nr := ne_of_none hL0 hnr
      have kl : (kn ks).length = ks.length := List.length_map _
      have hk := N.klen
      refine q_whileL (K := K) (i := 4) (fun m σ H' => ∃ zs ns nr x3 x5 x6 x7, σ = [some (.ref a), some (.ref b), some (.ref d), x3, some (.ref nr), x5, x6, x7] ∧ Same H H' ∧ Led H' d zs ∧ zs.Nodup ∧ (∀ z ∈ zs, z ∈ kn ks) ∧ (∀ p ∈ is, p.2 ∈ zs) ∧ H' nr = some (.lst (ns.map V.str)) ∧
          (∀ x ∈ ns, x ∈ zs) ∧ (∀ x r, (x, r) ∈ ks → x ∈ zs → x ∉ ns → ∀ t ∈ succ ks r, t ∈ zs) ∧ m = 2 * ((kn ks).length - zs.length) + (if ns = [] then 0 else 1))
        _ ⟨zs0, zs0, nr, _, none, none, none, rfl, e2.trans (same_upd hnr), ⟨L0, by rw [upd_ne nr0]; exact hL0, hLk0⟩, hnd0, hsub0, start0, upd_same, fun _ h => h, fun x r _ h1 h2 => absurd h1 h2, rfl⟩ (fun m σ' H' hw => ?_)
      obtain ⟨zs, ns, nr, x3, x5, x6, x7, rfl, e4, hled, hnd, hsub, hst, hnl, hnz, hcl, rfl⟩ := hw
      refine ⟨nr, ns.map V.str, rfl, hnl, fun hne => ?_, fun hem => ?_⟩
      · have hne' : ns ≠ [] := fun z => hne (by rw [z]; rfl)
        refine q_asgL el_nil fun f H5 hf e5 hfl => ?_
        have hnl5 := e5 _ _ hnl
        have nf : f ≠ nr := (ne_of_none hnl hf).symm
        obtain ⟨L, hL, hLk⟩ := hled
        have df : d ≠ f := ne_of_none hL hf
        have dn : d ≠ nr := ne_of hL hnl (by intro z; cases z)
        have Hf : H f = none := e4.free hf
        have Hd : H d = none := hd
        refine q_forV (K := K) (p := nr) (xs := ns.map V.str) (ev_tv rfl) hnl5 (fun j σ H' => ∃ fs x6 x7, σ = [some (.ref a), some (.ref b), some (.ref d), x3, some (.ref nr), some (.ref f), x6, x7] ∧ Same H H' ∧ Led H' d (zs ++ fs) ∧ (zs ++ fs).Nodup ∧ (∀ z ∈ zs ++ fs, z ∈ kn ks) ∧ H' nr = some (.lst (ns.map V.str)) ∧ H' f = some (.lst (fs.map V.str)) ∧
            ∀ x ∈ ns.take j, ∀ r, (x, r) ∈ ks → ∀ t ∈ succ ks r, t ∈ zs ++ fs)
          (fun H6 e6 => ⟨[], x6, x7, rfl, (e4.trans e5).trans e6, ⟨L, e6 _ _ (e5 _ _ hL), by rw [List.append_nil]; exact hLk⟩, by rw [List.append_nil]; exact hnd, by rw [List.append_nil]; exact hsub, e6 _ _ hnl5, e6 _ _ hfl, fun _ h => nomatch h⟩) (fun _ _ _ ⟨_, _, _, _, _, _, _, _, q, _⟩ => q) (fun j x σ2 H6 hx p => ?_) (fun σ2 H6 p => ?_)
        · obtain ⟨fs, y6, y7, rfl, e6, hled6, hnd6, hsub6, hn6, hf6, hdone6⟩ := p
          rw [List.getElem?_map] at hx
          obtain ⟨z, hz, rfl⟩ := Option.map_eq_some_iff.mp hx
          have hzn := List.mem_of_getElem? hz
          have hzk := hsub z (hnz z hzn)
          obtain ⟨⟨z', r⟩, hm, rfl⟩ := List.mem_map.mp hzk
          have N6 := N.go e6
          refine s_forM (K := K) (xs := (succ ks r).map V.str) (el_call (ea_cons (ev_tv rfl) fun _ _ => ea_cons (ev_tv rfl) fun _ _ => ea_nil) fun H7 e7 Q7 q7 => ⟨a, z', kv, ks, r, rfl, e7 _ _ N6.ha, N6.hkv.go e7, N.kn, hm, N.turns _ hm, q7⟩) fun p H7 hp e7 hpl => ?_
          have pd : p ≠ d := by
            obtain ⟨L6, hL6, _⟩ := hled6
            exact (ne_of_none hL6 hp).symm
          have pf : p ≠ f := (ne_of_none hf6 hp).symm
          refine ⟨fun i σ H' => ∃ fs x7, σ = [some (.ref a), some (.ref b), some (.ref d), x3, some (.ref nr), some (.ref f), some (.str z'), x7] ∧ Same H H' ∧ Led H' d (zs ++ fs) ∧ (zs ++ fs).Nodup ∧ (∀ z ∈ zs ++ fs, z ∈ kn ks) ∧ H' nr = some (.lst (ns.map V.str)) ∧ H' f = some (.lst (fs.map V.str)) ∧
            (∀ x ∈ ns.take j, ∀ r, (x, r) ∈ ks → ∀ t ∈ succ ks r, t ∈ zs ++ fs) ∧ H' p = some (.lst ((succ ks r).map V.str)) ∧ ∀ t ∈ (succ ks r).take i, t ∈ zs ++ fs,
            ⟨fs, y7, rfl, e6.trans e7, hled6.go e7, hnd6, hsub6, e7 _ _ hn6, e7 _ _ hf6, hdone6, hpl, (fun _ h => nomatch h)⟩, (fun _ _ _ ⟨_, _, _, _, _, _, _, _, _, _, q, _⟩ => q), fun i t σ3 H8 ht q => ?_, fun σ3 H8 q => ?_⟩
          · obtain ⟨gs, w7, rfl, e8, hled8, hnd8, hsub8, hn8, hf8, hdone8, hp8, hsofar⟩ := q
            rw [List.getElem?_map] at ht
            obtain ⟨t', ht', rfl⟩ := Option.map_eq_some_iff.mp ht
            have htk : t' ∈ kn ks := of_decide_eq_true (List.mem_filter.mp (List.mem_of_getElem? ht')).2
            obtain ⟨L8, hL8, hLk8⟩ := hled8
            have test : ∀ H9, Same H8 H9 → EvB (tB (tDNotIn (tVar 7) (tVar 2))) [some (.ref a), some (.ref b), some (.ref d), x3, some (.ref nr), some (.ref f), some (.str z'), some (.str t')] H9 (!decide (t' ∈ zs ++ gs)) := fun H9 e9 => evb_is (EvB.of (ev_notInD (k := .inr t') (ev_tv rfl) (fun _ _ => ev_tv rfl) (e9 _ _ hL8))) (by rw [led_mem hLk8])
            have upto : ∀ ws : List Str, (∀ x ∈ zs ++ gs, x ∈ ws) → t' ∈ ws → ∀ t ∈ (succ ks r).take (i + 1), t ∈ ws := fun ws h1 h2 t h => by
              rw [take_snoc ht'] at h; rcases List.mem_append.mp h with h | h
              · exact h1 t (hsofar t h)
              · rw [List.mem_singleton.mp h]
                exact h2
            by_cases hin : t' ∈ zs ++ gs
            · refine s_no (evb_is (test H8 (Same.refl _)) (by rw [decide_eq_true hin]; rfl)) fun H9 e9 => ?_
              exact ⟨gs, _, rfl, e8.trans e9, ⟨L8, e9 _ _ hL8, hLk8⟩, hnd8, hsub8, e9 _ _ hn8, e9 _ _ hf8, hdone8, e9 _ _ hp8, upto _ (fun _ h => h) hin⟩
            · have hl8 : L8.length ≤ ks.length := by
                rw [led_len hLk8, ← kl]
                exact nodup_len hnd8 hsub8
              refine if_yes (evb_is (test H8 (Same.refl _)) (by rw [decide_eq_false hin]; rfl)) fun H9 e9 => ?_
              refine q_dput (k := .inr t') (v := .str z') (ev_tv rfl) (fun _ _ => ev_tv rfl) (fun _ _ => ev_tv rfl) (e9 _ _ hL8) (by omega) fun H10 e10 => ?_
              have e810 := e9.trans e10
              have hgl : gs.length ≤ ks.length := by
                have q1 := nodup_len hnd8 hsub8
                rw [List.length_append] at q1
                omega
              refine s_app (l := f) (xs := gs.map V.str) (v := .str t') (by rw [upd_ne df.symm]; exact e810 _ _ hf8) (ev_tv rfl) (fun _ _ => ev_tv rfl) (by rw [List.length_map]; omega) fun H11 e11 => ?_
              have eA : zs ++ (gs ++ [t']) = (zs ++ gs) ++ [t'] := (List.append_assoc _ _ _).symm
              have hput := led_put (v := V.str z') hLk8 hin
              have toH : Same H (upd H11 f (.lst (gs.map V.str ++ [V.str t']))) := Same.mut ((Same.mut (e8.trans e810) Hd).trans e11) Hf
              refine ⟨gs ++ [t'], _, rfl, toH, ⟨_, by rw [upd_ne df]; exact e11 _ _ upd_same, by rw [eA]; exact hput⟩, by rw [eA]; exact nd_snoc hnd8 hin, fun z hz => ?_, ?_, by rw [upd_same, List.map_append]; rfl, fun x hx r' hr' t ht => ?_, ?_, ?_⟩
              · rw [eA] at hz
                rcases List.mem_append.mp hz with q | q
                · exact hsub8 z q
                · rw [List.mem_singleton.mp q]
                  exact htk
              · rw [upd_ne nf.symm]
                exact e11 _ _ (by rw [upd_ne dn.symm]; exact e810 _ _ hn8)
              · rw [eA]
                exact List.mem_append_left _ (hdone8 x hx r' hr' t ht)
              · rw [upd_ne pf]
                exact e11 _ _ (by rw [upd_ne pd]; exact e810 _ _ hp8)
              · rw [eA]
                exact upto _ (fun _ h => List.mem_append_left _ h) (List.mem_append_right _ (List.mem_singleton.mpr rfl))
          · obtain ⟨gs, w7, rfl, e8, hled8, hnd8, hsub8, hn8, hf8, hdone8, hp8, hsofar⟩ := q
            rw [List.length_map, List.take_length] at hsofar
            refine ⟨gs, _, w7, rfl, e8, hled8, hnd8, hsub8, hn8, hf8, fun x hx r' hr' t ht => ?_⟩
            rw [take_snoc hz] at hx; rcases List.mem_append.mp hx with q | q
            · exact hdone8 x q r' hr' t ht
            · have e : x = z' := List.mem_singleton.mp q
              subst e
              have es := kn_one N.kn hr' hm
              rw [es] at ht
              exact hsofar t ht
        · obtain ⟨fs, y6, y7, rfl, e6, hled6, hnd6, hsub6, hn6, hf6, hdone6⟩ := p
          rw [List.length_map, List.take_length] at hdone6
          refine ⟨_, rfl, ?_⟩
          have q1 := nodup_len hnd6 hsub6
          rw [List.length_append] at q1
          refine ⟨_, ?_, zs ++ fs, fs, f, _, _, _, _, rfl, e6, hled6, hnd6, hsub6, fun p hp => List.mem_append_left _ (hst p hp), hf6, fun x hx => List.mem_append_right _ hx, fun x r hxr hx hnx t ht => ?_, rfl⟩
          · rw [if_neg hne', List.length_append]
            by_cases hfs : fs = []
            · rw [if_pos hfs]
              omega
            · rw [if_neg hfs]
              have : 0 < fs.length := List.length_pos_iff.mpr hfs
              omega
          · have hxz : x ∈ zs := (List.mem_append.mp hx).resolve_right hnx
            by_cases hxn : x ∈ ns
            · exact hdone6 x hxn r hxr t ht
            · exact List.mem_append_left _ (hcl x r hxr hxz hxn t ht)
      · have hns : ns = [] := List.map_eq_nil_iff.mp hem
        subst hns
        refine s_ret (ev_tv rfl) fun H5 e5 => k d H5 zs hd (e4.trans e5) (hled.go e5) ⟨hst, fun x r hxr hx t ht => hcl x r hxr hx (fun z => nomatch z) t ht⟩
theorem q_asgR {te : TE} {u : TS} {D : Ends} {σ : L2.St} {H : Hp} {i : Nat} (R : V → Hp → Prop) (h : ∀ Q : VK, (∀ v H', R v H' → Q v H') → te σ H Q) (k : ∀ v H', R v H' → u D (σ.set i (some v)) H') : tSeq (tAsg te (gName i)) u D σ H := h _ k
/-! ### check_met -/
/-- each knot is met -/
def Met (ks : Knots) (is : Ins) : Prop := ∀ zs, Closed ks is zs → ∀ x ∈ kn ks, x ∈ zs
def spChMet : Sp := fun vs H Q _ => ∃ (a b : Addr) (kv iv : List (Key × V)) (ks : Knots) (is : Ins), vs = [.ref a, .ref b] ∧ NetIn H a b kv iv ks is ∧ Met ks is ∧ ∀ H', Same H H' → Q .non H'
theorem scChMet : FnScope ["knots", "inlets", "led", "knot"] ["knots", "inlets"] (defScope sChMet) := ⟨rfl, rfl, rfl, by decide +kernel, rfl, by decide +kernel, by decide +kernel⟩
theorem ok_chMet (T : Tx K mg ad) : FnOk P w K mg base CX0 4 ad.chMet ad.dChMet ["knots", "inlets"] spChMet := by
  have GL : FnOk P w K mg base CX0 3 ad.leaders ad.dLeaders ["knots", "inlets"] spLeaders := ok_leaders T
  have bL := T.fLeaders.binds (ps := ["knots", "inlets"]) fun _ _ _ _ _ _ us hl => match us, hl with | [_, _], _ => rfl
  refine T.fChMet.ok scChMet (fun vs H Q E h => ?_) (fun cdv A outer s H vs Q E hr h => ?_)
  · obtain ⟨a, b, kv, iv, ks, is, rfl, _⟩ := h
    rfl
  · obtain ⟨a, b, kv, iv, ks, is, rfl, N, met, k⟩ := h
    refine ⟨_, pss_cons (ps_set (i := 2) scChMet.nd rfl (.inl rfl) (pe_call GL hr (by rfl) T.gLeaders T.fLeaders.kp bL .nil pass0 (pa_cons (pv 0) (pa_cons (pv 1) pa_nil))))
      (pss_one (ps_for PassesOwn.never rfl (pi_list (pe_callB (call_sortedD rfl) (by rfl) T.sorted b_sorted (pa_cons (pv 0) pa_nil))) (pg_name (i := 3) scChMet.nd rfl (.inl rfl))
        (pss_one (ps_if (pt_cmp (pc_dnotin (hu_of hr) (pv 3) (pv 2))) (pss_one ps_never) pss_nil)))), ?_⟩
    have hkeys : kv.map (·.1) = (kn ks).map Sum.inr := by rw [N.hkv.keys, kd_keys]
    have kl : (kn ks).length = ks.length := List.length_map _
    refine q_asgR (fun v H' => ∃ d zs, v = .ref d ∧ Same H H' ∧ Led H' d zs ∧ Closed ks is zs) (fun Q q => ⟨_, rfl, _, rfl, a, b, kv, iv, ks, is, rfl, N, fun d H1 zs hd e1 hled hcl => q _ _ ⟨d, zs, rfl, e1, hled, hcl⟩⟩) fun v H1 hv => ?_
    obtain ⟨d, zs, rfl, e1, hled, hcl⟩ := hv
    have hall := met zs hcl
    refine s_forN (K := K) (el_sortedD (ev_tv rfl) (e1 _ _ N.ha) hkeys (by have := N.klen; omega)) fun p2 H3 e3 hxs3 => ?_
    refine ⟨fun i σ H' => ∃ x, σ = [some (.ref a), some (.ref b), some (.ref d), x] ∧ Same H3 H', ⟨none, rfl, Same.refl _⟩, fun _ _ _ ⟨_, _, q⟩ => q, fun i x σ' H' hx p => ?_, fun σ' H' ⟨_, _, q⟩ => k H' (e1.trans (e3.trans q))⟩
    obtain ⟨x0, rfl, e4⟩ := p
    rw [List.getElem?_map] at hx
    obtain ⟨z, hz, rfl⟩ := Option.map_eq_some_iff.mp hx
    have hm : z ∈ kn ks := (srt_perm _).mem_iff.mp (List.mem_of_getElem? hz)
    obtain ⟨L, hL, hLk⟩ := hled
    refine s_no (evb_is (EvB.of (ev_notInD (k := .inr z) (ev_tv rfl) (fun _ _ => ev_tv rfl) (e4 _ _ (e3 _ _ hL)))) ?_) fun H5 e5 => ⟨_, rfl, e4.trans e5⟩
    rw [led_mem hLk, decide_eq_true (hall z hm)]
    rfl
end
end Bc

/-! sorted(l), l a list of pairs (text, anything) whose texts differ; sorted of a tuple of texts -/
namespace Bc
open PySem PySem.Spec PyProof.Rows SrtO
/-- a tuple of a text and something -/
def IsSP (h : Heap) (v : Value) (z : Str) : Prop := ∃ a o t u n, v = .ref a ∧ h.get? a = some o ∧ o.cls = .type "tuple" ∧ o.data = .seq #[.str z t, u] n
theorem IsSP.keeps {h h' : Heap} {v : Value} {z : Str} (p : IsSP h v z) (k : ∀ b o, h.get? b = some o → o.cls = .type "tuple" → h'.get? b = some o) : IsSP h' v z := by
  obtain ⟨a, o, t, u, n, e, ho, hc, hd⟩ := p; exact ⟨a, o, t, u, n, e, k _ _ ho hc, hc, hd⟩
theorem firstsS {h : Heap} {k : Value → Str} : ∀ {vs : List Value}, (∀ v ∈ vs, IsSP h v (k v)) → ∃ fs : List Value, PySem.W.KatTups h vs fs ∧ fs.length = vs.length ∧ ∀ f ∈ fs, ∃ x t, f = Value.str x t
  | [], _ => ⟨[], PySem.W.KatTups.nil, rfl, fun _ hm => nomatch hm⟩
  | v :: vs, hp => by
    obtain ⟨fs, h1, h2, h3⟩ := firstsS (vs := vs) fun v' hm => hp v' (List.mem_cons_of_mem _ hm)
    obtain ⟨a, o, t, u, n, e, ho, hc, hd⟩ := hp v (List.mem_cons_self ..)
    subst e
    refine ⟨.str (k (.ref a)) t :: fs, PySem.W.KatTups.cons ho hc hd rfl h1, by rw [List.length_cons, List.length_cons, h2], fun f hm => ?_⟩; rcases List.mem_cons.mp hm with rfl | hm
    · exact ⟨_, t, rfl⟩
    · exact h3 f hm
abbrev ltS (x y : Str) : Bool := ltCps x.cps.toList y.cps.toList
theorem swoS (k : Value → Str) : Swo fun v u => ltS (k v) (k u) := by
  refine ⟨fun x y (h : _ = true) => ?_, fun x y z h1 h2 => ?_⟩
  · cases q : ltS (k y) (k x) with
    | false => rfl
    | true =>
      have := lt_trans h q
      rw [lt_irr] at this
      cases this
  · have a : leS (k x) (k y) = true := by
      show (!ltCps (k y).cps.toList (k x).cps.toList) = true
      have h1' : ltCps (k y).cps.toList (k x).cps.toList = false := h1
      rw [h1']
      rfl
    have b : leS (k y) (k z) = true := by
      show (!ltCps (k z).cps.toList (k y).cps.toList) = true
      have h2' : ltCps (k z).cps.toList (k y).cps.toList = false := h2
      rw [h2']
      rfl
    have c := leS_trans a b
    have c' : (!ltCps (k z).cps.toList (k x).cps.toList) = true := c
    show ltCps (k z).cps.toList (k x).cps.toList = false
    cases q : ltCps (k z).cps.toList (k x).cps.toList with
    | false => rfl
    | true =>
      rw [q] at c'
      cases c'
section
variable {s : Shared} {prog : Program} {w : World} {A : Around} {E : Value → Shared → Prop}
theorem sp_cmp {vs : List Value} {k : Value → Str} (hp : ∀ v ∈ vs, IsSP s.heap v (k v)) (hi : ∀ v ∈ vs, ∀ u ∈ vs, k v = k u → v = u) : Cmp prog w A s (tuples' true) (fun p => p.1 ∈ vs) (lt2 fun v u => ltS (k v) (k u)) := by
  intro p q hm hm'
  have h1 := hp _ hm
  have h2 := hp _ hm'
  have h3 := hi _ hm _ hm'
  show wpAny (model prog w) A (keyLt' (tuples' true) p.1 q.1) (fun r s' => s' = s ∧ r = ltS (k p.1) (k q.1)) (fun _ _ => False) s
  generalize k p.1 = x at h1 h3 ⊢
  generalize k q.1 = x' at h2 h3 ⊢
  obtain ⟨a, o, t, u, n, e, ho, hc, hd⟩ := h1; obtain ⟨a', o', t', u', n', e', ho', hc', hd'⟩ := h2
  rw [e, e'] at h3
  rw [e, e']
  refine PySem.W.kat_lt ho hd ho' hd' ?_; show PySem.W.KatLex prog w A true (decide (2 < 2)) _ [(.str x t, .str x' t'), (u, u')] 0 s
  refine PySem.W.kat_cons (SeqAt.EqAt.str_str x t x' t' prog w _ _ ?_); refine PySem.W.kat_go (fun e1 => ?_) (fun e1 => ?_)
  · have ex : x = x' := beq_iff_eq.mp e1
    have ea := h3 ex
    cases ea
    rw [ho] at ho'
    cases ho'
    rw [hd] at hd'
    have eu : u = u' := by
      injection hd' with q1 q2
      have q3 := congrArg (fun z : Array Value => z[1]?) q1
      simpa using q3
    subst eu
    subst ex
    refine PySem.W.kat_yes (PySem.W.kat_cons (SeqAt.EqAt.same u prog w _ _ ?_))
    refine PySem.W.kat_yes (PySem.W.kat_nil ⟨rfl, ?_⟩)
    show decide (2 < 2) = ltS x x
    rw [show ltS x x = false from lt_irr _]
    rfl
  · have ex : ¬ x = x' := fun w => by simp [w] at e1
    refine PySem.W.kat_no (oneLt_str ⟨rfl, ?_⟩)
    exact (PyProof.Rows.ltCps_eq _ _).symm
theorem sp_sortable {a : Addr} {vs : List Value} {k : Value → Str} (h0 : 0 < vs.length) (hp : ∀ v ∈ vs, IsSP s.heap v (k v)) (hi : ∀ v ∈ vs, ∀ u ∈ vs, k v = k u → v = u) (ha : ∀ o, s.heap.get? a = some o → o.cls ≠ .type "tuple") : SortableO prog w A s a vs fun v u => ltS (k v) (k u) := by
  intro h' keep
  have hp' : ∀ v ∈ vs, IsSP h' v (k v) := fun v hm => (hp v hm).keeps fun b o e c => keep b o (fun z => by subst z; exact ha o e c) e
  obtain ⟨fs, h1, h2, h3⟩ := firstsS hp'
  refine ⟨tuples' true, fun Q E hq => ?_, sp_cmp hp' hi⟩
  refine PySem.W.kat_kind (T := .type "str") h1 (by omega) (fun f hm => ?_) (by rfl) ?_
  · obtain ⟨z, t, rfl⟩ := h3 f hm
    exact PySem.W.Looks.now
  · have e : (Value.type "str" != Value.type "tuple") = true := by first | decide +kernel | rfl | decide
    rw [e]
    exact hq
theorem sorted_sp {l : Addr} {vs : List Value} {k : Value → Str} {Q : Value → Shared → Prop} (hl : s.heap.IsList l vs.toArray) (hz : vs.length ≤ sizeLine) (hp : ∀ v ∈ vs, IsSP s.heap v (k v)) (hi : ∀ v ∈ vs, ∀ u ∈ vs, k v = k u → v = u)
    (h : ∀ (h' : Heap) (d : Addr) (out : List Value), Srtd (fun v u => ltS (k v) (k u)) out → Stb (fun v u => ltS (k v) (k u)) out vs → (∀ b o, s.heap.get? b = some o → h'.get? b = some o) → s.heap.objs.size ≤ d → (∃ n, h'.get? d = some (seqObj "list" out.toArray n)) → Q (.ref d) { s with heap := h' }) : wpAny (model prog w) A (call (.builtin "sorted") [.ref l]) Q E s := by
  refine sorted_ord (swoS k) hl hz (fun h2 h₁ a ha kk => ?_) fun out hs hb => ?_
  · refine sp_sortable (s := { s with heap := h₁ }) (by omega) (fun v hm => (hp v hm).keeps fun b o e _ => (kk b o e).2) hi fun o e => ?_
    have e' : some o = some (seqObj "list" vs.toArray 0) := e.symm.trans ha; cases e'
    intro c; exact absurd (Value.type.inj c) (by decide)
  · exact h _ _ out hs hb (fun _ _ e => sortedAll_old e) (Nat.le_succ _) (sortedAll_at s.heap vs out.toArray)
end
open L2
/-- sorted(xs), xs a list of pairs whose first items are texts that differ (k says which) -/
def rSortSP (K : PySem.W.Frag) : List V → Hp → VK → Prop := fun vs H Q => ∃ (a : Addr) (xs : List V) (k : V → Str), vs = [V.ref a] ∧ SqL K H a xs ∧ (∀ x ∈ xs, ∃ t u, x = V.ref t ∧ H t = some (.tup [.str (k x), u])) ∧ (xs.map k).Nodup ∧
  ∀ ys p, ys.Perm xs → ys.Pairwise (fun x y => leS (k x) (k y) = true) → H p = none → Q (.ref p) (upd H p (.lst ys))
theorem map_inj {α β : Type} {f : α → β} : ∀ {l : List α}, (l.map f).Nodup → ∀ x ∈ l, ∀ y ∈ l, f x = f y → x = y
  | [], _, x, hx, _, _, _ => nomatch hx
  | a :: l, h, x, hx, y, hy, e => by
    obtain ⟨h1, h2⟩ := List.nodup_cons.mp (show (f a :: l.map f).Nodup from h)
    rcases List.mem_cons.mp hx with ex | hx'
    · rcases List.mem_cons.mp hy with ey | hy'
      · rw [ex, ey]
      · exact absurd (show f a ∈ l.map f from List.mem_map.mpr ⟨y, hy', by rw [← e, ex]⟩) h1
    · rcases List.mem_cons.mp hy with ey | hy'
      · exact absurd (show f a ∈ l.map f from List.mem_map.mpr ⟨x, hx', by rw [e, ey]⟩) h1
      · exact map_inj h2 x hx' y hy' e
section
variable {X : Cx}
theorem cr_sortSP : CallR X (.builtin "sorted") (rSortSP X.K) := by
  intro pz s σ H vs uz Q I r h
  obtain ⟨a, xs, k, rfl, hs, hx, hn, q⟩ := h
  obtain ⟨itz, rvz, hl, hz⟩ := I.list hs
  obtain ⟨u, rfl, ruz⟩ := vals1 r
  obtain rfl : u = Value.ref a := ruz
  obtain ⟨e1, e2⟩ := refs_back rvz fun x m => by
    obtain ⟨t, _, e, _⟩ := hx x m
    exact ⟨t, e⟩
  have inV : ∀ v ∈ itz, backV v ∈ xs := fun v hv => by rw [e1]; exact List.mem_map.mpr ⟨_, hv, rfl⟩
  refine sorted_sp (k := fun u => k (backV u)) hl.isList (by rw [← rvz.length]; exact hz) (fun v hv => ?_) (fun v hv u hu e => ?_) fun h' d out h1 h2 kp hd hn => ?_
  · obtain ⟨t, rfl⟩ := e2 v hv
    obtain ⟨t', u', e, ht⟩ := hx _ (inV _ hv)
    cases e
    obtain ⟨_, its2, r2, o, ho, hc, n, hd⟩ := I.hok _ _ ht; obtain ⟨u1, u2, rfl, ri, rj⟩ := vals2 r2
    obtain ⟨t1, rfl⟩ := ri
    exact ⟨t, o, t1, u2, n, rfl, ho, hc, hd⟩
  · have := map_inj hn _ (inV v hv) _ (inV u hu) e
    obtain ⟨t, rfl⟩ := e2 v hv
    obtain ⟨t', rfl⟩ := e2 u hu
    cases this
    rfl
  · have h3 : ∀ u ∈ out, ∃ a, u = Value.ref a := fun u m => e2 u (h2.perm.mem_iff.mp m)
    obtain ⟨n, hn⟩ := hn
    have hperm : (out.map backV).Perm xs := by
      rw [e1]
      exact h2.perm.map backV
    refine ⟨.ref d, upd H d (.lst (out.map backV)), I.laid (t' := s.toks) kp hd ⟨?_, out, n, vals_back h3, hn⟩, rfl, q _ d hperm ?_ (I.hok.fresh hd)⟩
    · rw [hperm.length_eq]
      exact hz
    · refine List.pairwise_map.mpr (h1.imp fun {a b} hab => ?_)
      show (!ltCps (k (backV b)).cps.toList (k (backV a)).cps.toList) = true
      have hab' : ltCps (k (backV b)).cps.toList (k (backV a)).cps.toList = false := hab
      rw [hab']
      rfl
/-- sorted(t), t a tuple of texts -/
def rSortT : List V → Hp → VK → Prop := fun vs H Q => ∃ (a : Addr) (xs : List Str), vs = [V.ref a] ∧ H a = some (.tup (xs.map V.str)) ∧ xs.length < 64 ∧ ∀ (ys : List Str) (p : Addr), ys.Perm xs → sortedS ys = true → H p = none → Q (.ref p) (upd H p (.lst (ys.map V.str)))
theorem cr_sortT : CallR X (.builtin "sorted") rSortT := by
  intro pz s σ H xs uz Q I r q
  obtain ⟨a, ks, ex, hd, hsix, q⟩ := q
  subst ex
  obtain ⟨u, eu, rz⟩ := vals1 r
  subst eu
  cases rz
  obtain ⟨_, itz, rvz, o, ho, hc, n, hdt⟩ := I.hok _ _ hd
  have hlen0 := rvz.length
  rw [List.length_map] at hlen0
  have hS0 := rvz.strs
  refine Calls.call_function_entry PyProof.Rows.kind_sorted PyProof.Rows.plain_sorted PyProof.Rows.entry_sorted (PyProof.Rows.args_sorted1 _) ?_; unfold Builtin.«sorted»
  refine wpAny_bind (m := checkCount "sorted" 1 1 _) (wpAny_pure ?_); refine wpAny_bind (wpAny_collect_seq (A := X.A.in1) a (.inr rfl) ho hc hdt (fun h' hk => ?_) (by rw [List.size_toArray, ← hlen0]; exact Nat.le_trans (Nat.le_of_lt hsix) (by decide)))
  have eA : itz.toArray.toList = itz := by simp
  rw [eA]
  have J1 : Inv X pz σ H { s with heap := h', toks := s.toks } := I.kept hk
  refine wpAny_bind (wpAny_newList ?_ (by rw [← hlen0, sizeLine_eq]; omega))
  have hoLz : (h'.push (seqObj "list" itz.toArray 0)).get? h'.objs.size = some (seqObj "list" itz.toArray 0) := Heap.get?_push_size _ rfl
  show wpAny _ _ _ _ _ { s with heap := h'.push (seqObj "list" itz.toArray 0) }
  refine wpAny_bind (wpAny_holding (wpAny_call_entry PyProof.Rows.slot_list_sort ⟨_, hoLz, rfl⟩ PyProof.Rows.entry_list_sort
    (list_sort_treeK strKind_oneLt (s := { s with heap := h'.push (seqObj "list" itz.toArray 0) }) hoLz hS0.keysOf (fun v₁ v₂ rest e => keyKind_strs (by rw [← e]; exact hS0)) (by rw [← hlen0]; exact hsix) fun st' hp hs => ⟨_, rfl, ?_⟩) (PyProof.Rows.args_list_sort _)))
  obtain ⟨ys, g1, g2, g3⟩ := sorted_out_str hS0 hp hs
  obtain ⟨e', he'⟩ := PyProof.Rows.sortedHeap_at (vs := itz) (out := (arrOf st').map (·.2)) hoLz
  have hlen : (ys.map V.str).length ≤ sizeLine := show _ ≤ _ by
    rw [List.length_map, g2.length_eq]; exact Nat.le_trans (Nat.le_of_lt hsix) (by decide)
  refine wpAny_pure ⟨_, rfl, .ref h'.objs.size, upd H h'.objs.size (.lst (ys.map V.str)), J1.laid (t' := s.toks) (fun b u e => ?_) (Nat.le_refl _)
    (show ObjOk X.prog X.w _ _ _ (.lst (ys.map V.str)) from ⟨hlen, ((arrOf st').map (·.2)).toList, e', vals_of_strs g1, by rw [Array.toArray_toList]; exact he'⟩), rfl, q ys _ g2 g3 (J1.hok.fresh (Nat.le_refl _))⟩
  have hb : b < h'.objs.size := Heap.lt_size e; rw [PyProof.Rows.sortedHeap_old (Nat.ne_of_lt hb) (by rw [size_push']; exact Nat.lt_succ_of_lt hb)]; exact Heap.get?_push_of_some _ e
end
end Bc

namespace Bc
open PySem L2 PyProof.Rows StX
/-- a dict's data, ascending -/
def srtD (ds : List (Str × PyData)) : List (Str × PyData) := (srt (ds.map fun p => p.1)).map fun z => (z, (ds.lookup z).getD .none)
theorem lookup_mem {α : Type} : ∀ {l : List (Str × α)} {x : Str} {d : α}, l.lookup x = some d → (x, d) ∈ l
  | [], _, _, h => by simp at h
  | (k, e) :: r, x, d, h => by
    rw [List.lookup_cons] at h
    cases q : x == k with
    | true =>
      rw [q] at h
      have e1 : x = k := by simpa using q
      subst e1
      cases h
      exact List.mem_cons_self
    | false =>
      rw [q] at h
      exact List.mem_cons_of_mem _ (lookup_mem h)
theorem mem_lookup {α : Type} : ∀ {l : List (Str × α)} {x : Str}, x ∈ l.map (fun p => p.1) → ∃ d, l.lookup x = some d
  | [], _, h => nomatch h
  | (k, e) :: r, x, h => by
    rw [List.lookup_cons]
    cases q : x == k with
    | true => exact ⟨e, rfl⟩
    | false =>
      rcases List.mem_cons.mp h with z | m
      · have z' : x = k := z
        rw [z'] at q
        simp at q
      · exact mem_lookup m
/-- {x: d[x] for x in sorted(d)} -/
theorem dk_sorted {H : Hp} {kv : List (Key × V)} {ds : List (Str × PyData)} (h : Dk H kv ds) : Dk H ((srt (ds.map fun p => p.1)).map fun z => ((.inr z : Key), (valV kv (.inr z)).getD .non)) (srtD ds) := by
  have key : ∀ zs : List Str, (∀ z ∈ zs, z ∈ ds.map fun p => p.1) → Dk H (zs.map fun z => ((.inr z : Key), (valV kv (.inr z)).getD .non)) (zs.map fun z => (z, (ds.lookup z).getD .none)) := by
    intro zs
    induction zs with
    | nil => intro _; exact .nil
    | cons z r ih =>
      intro hz
      obtain ⟨d, hd⟩ := mem_lookup (hz z List.mem_cons_self)
      obtain ⟨v, hv, hdt⟩ := h.get hd
      refine .cons ?_ (ih fun y hy => hz y (List.mem_cons_of_mem _ hy))
      rw [hv, hd]
      exact hdt
  exact key _ fun z hz => (srt_perm _).mem_iff.mp hz
/-- a net in the heap -/
structure NetAt (H : Hp) (C x : Addr) (ks is : List (Str × PyData)) (os : List Str) : Prop where
  ex : ∃ (dx ka ia oa : Addr) (kv iv : List (Key × V)), H x = some (.ins C dx [("knots", .ref ka), ("inlets", .ref ia), ("outlets", .ref oa)]) ∧ H ka = some (.dK kv) ∧ Dk H kv ks ∧ H ia = some (.dK iv) ∧ Dk H iv is ∧ H oa = some (.tup (os.map V.str))
theorem NetAt.go {H H' : Hp} {C x : Addr} {ks is : List (Str × PyData)} {os : List Str} (n : NetAt H C x ks is os) (e : Same H H') : NetAt H' C x ks is os := by
  obtain ⟨dx, ka, ia, oa, kv, iv, h1, h2, h3, h4, h5, h6⟩ := n.ex
  exact ⟨dx, ka, ia, oa, kv, iv, e _ _ h1, e _ _ h2, h3.go e, e _ _ h4, h5.go e, e _ _ h6⟩
/-- a net just made: its own parts are new -/
structure NetNew (H0 H : Hp) (C x : Addr) (ks is : List (Str × PyData)) (os : List Str) : Prop where
  ex : ∃ (dx ka ia oa : Addr) (kv iv : List (Key × V)), H x = some (.ins C dx [("knots", .ref ka), ("inlets", .ref ia), ("outlets", .ref oa)]) ∧ H ka = some (.dK kv) ∧ Dk H kv ks ∧ H ia = some (.dK iv) ∧ Dk H iv is ∧ H oa = some (.tup (os.map V.str)) ∧ H0 ka = none ∧ H0 ia = none
theorem NetNew.net {H0 H : Hp} {C x : Addr} {ks is : List (Str × PyData)} {os : List Str} (n : NetNew H0 H C x ks is os) : NetAt H C x ks is os := by
  obtain ⟨dx, ka, ia, oa, kv, iv, h1, h2, h3, h4, h5, h6, _⟩ := n.ex
  exact ⟨⟨dx, ka, ia, oa, kv, iv, h1, h2, h3, h4, h5, h6⟩⟩
theorem NetNew.go {H0 H H' : Hp} {C x : Addr} {ks is : List (Str × PyData)} {os : List Str} (n : NetNew H0 H C x ks is os) (e : Same H H') : NetNew H0 H' C x ks is os := by
  obtain ⟨dx, ka, ia, oa, kv, iv, h1, h2, h3, h4, h5, h6, h7, h8⟩ := n.ex
  exact ⟨dx, ka, ia, oa, kv, iv, e _ _ h1, e _ _ h2, h3.go e, e _ _ h4, h5.go e, e _ _ h6, h7, h8⟩
structure OkNet (ks : Knots) (is : Ins) (os : List Str) : Prop where
  names : OkNames (kn ks ++ os ++ inn is)
  rows : ∀ p ∈ ks, OkRows (fun x => x ∈ kn ks ++ os) p.2
  met : Met ks is
  some : 1 ≤ ks.length
  few : ks.length ≤ 12
  insome : 1 ≤ is.length
  ofew : os.length < 60
section
variable {X : Cx} {K : PySem.W.Frag} {σ : L2.St} {H : Hp} {ta tv : TE} {D : Ends} {u : TS}
theorem q_fldK {x C dx : Addr} {fs : List (Str × V)} {f : Str} {kvs : List (Key × V)} (hv : EvK tv σ H kvs) (ha : ∀ H', Same H H' → Ev ta σ H' (.ref x)) (hx : H x = some (.ins C dx fs)) (c : Cls K C) (n : NoAttr K C f) (hl : fs.length < 1000)
    (k : ∀ p H', H p = none → Same H H' → H' p = some (.dK kvs) → u D σ (upd H' x (.ins C dx (putF f (.ref p) fs)))) : tSeq (sFld K ta tv f) u D σ H :=
  hv _ fun p H1 hp e1 h1 => ha H1 e1 _ fun H2 e2 => ⟨x, C, dx, fs, rfl, e2 _ _ (e1 _ _ hx), c, n, hl, k p H2 hp (e1.trans e2) (e2 _ _ h1)⟩
theorem s_fldU {x C dx : Addr} {fs : List (Str × V)} {f : Str} {xs : List V} (hv : EvU tv σ H xs) (ha : ∀ H', Same H H' → Ev ta σ H' (.ref x)) (hx : H x = some (.ins C dx fs)) (c : Cls K C) (n : NoAttr K C f) (hl : fs.length < 1000)
    (k : ∀ p H', H p = none → Same H H' → H' p = some (.tup xs) → D.nx σ (upd H' x (.ins C dx (putF f (.ref p) fs)))) : sFld K ta tv f D σ H :=
  hv _ fun p H1 hp e1 h1 => ha H1 e1 _ fun H2 e2 => ⟨x, C, dx, fs, rfl, e2 _ _ (e1 _ _ hx), c, n, hl, k p H2 hp (e1.trans e2) (e2 _ _ h1)⟩
theorem ev_callL {sp : Sp} {E : XK} {xs : List V} {v : V} (h : EvL ta σ H xs) (k : ∀ p H', Same H H' → H' p = some (.lst xs) → ∀ Q : VK, (∀ H2, Same H' H2 → Q v H2) → sp ([.ref p] ++ []) H' Q E) : Ev (tCall sp [] E (tCons ta tNil)) σ H v := fun Q q =>
  h _ fun p H1 hp e1 hx => k p H1 e1 hx Q fun H2 e2 => q H2 (e1.trans e2)
abbrev rSortLT (K : PySem.W.Frag) : List V → Hp → VK → Prop := fun xs H Q => rSortedS K xs H Q ∨ rSortT xs H Q
theorem el_sortLT {c : Addr} {os : List Str} (ha : Ev ta σ H (.ref c)) (hc : H c = some (.lst (os.map V.str)) ∨ H c = some (.tup (os.map V.str))) (hl : os.length < 64) : EvL (tCB (rSortLT K) (tCons ta tNil)) σ H ((srt os).map V.str) := fun Q q =>
  ha _ fun H1 e1 => by
    rcases hc with hc | hc
    · refine .inl ⟨c, os, rfl, SqL.of (e1 _ _ hc), hl, fun ys p h1 h2 h3 => ?_⟩
      have e := srt_is h1 h2
      subst e
      exact q p _ (e1.free h3) (e1.trans (same_upd h3)) upd_same
    · refine .inr ⟨c, os, rfl, e1 _ _ hc, hl, fun ys p h1 h2 h3 => ?_⟩
      have e := srt_is h1 h2
      subst e
      exact q p _ (e1.free h3) (e1.trans (same_upd h3)) upd_same
abbrev rTupOf (K : PySem.W.Frag) : List V → Hp → VK → Prop := fun xs H Q => ∃ p ys, xs = [V.ref p] ∧ ((SqL K H p ys ∧ ∀ l, H l = none → Q (.ref l) (upd H l (.tup ys))) ∨ (SqT K H p ys ∧ Q (.ref p) H))
theorem eu_tupOf {xs : List V} (h : EvL ta σ H xs) : EvU (tCB (rTupOf K) (tCons ta tNil)) σ H xs := fun Q q =>
  h _ fun p H1 hp e1 hx => ⟨p, xs, rfl, .inl ⟨SqL.of hx, fun l hl => q l _ (e1.free hl) (e1.trans (same_upd hl)) upd_same⟩⟩
end
section
variable {P : Program} {w : World} {K : PySem.W.Frag} {mg : Str → Option Value} {base : Heap} {ad : Ad}
/-! ### Net.__init__ -/
def spInit (C : Addr) : Sp := fun vs H Q _ => ∃ (H0 : Hp) (x dx a b c : Addr) (kv iv : List (Key × V)) (ks : Knots) (is : Ins) (os : List Str), vs = [.ref x, .ref a, .ref b, .ref c] ∧ Same H0 H ∧ H0 x = none ∧ H x = some (.ins C dx []) ∧ NetIn H0 a b kv iv ks is ∧
  (H0 c = some (.lst (os.map V.str)) ∨ H0 c = some (.tup (os.map V.str))) ∧ OkNet ks is os ∧ ∀ H', Same H0 H' → NetNew H0 H' C x (srtD (kd ks)) (srtD (id_ is)) (srt os) → Q .non H'
theorem scInit : FnScope ["self", "knots", "inlets", "outlets", "knot", "inlet"] ["self", "knots", "inlets", "outlets"] (defScope sInit) := ⟨rfl, rfl, rfl, by decide +kernel, rfl, by decide +kernel, by decide +kernel⟩
theorem ki_ : ¬ (("knots" : Str) = "inlets") := by decide +kernel
theorem ko_ : ¬ (("knots" : Str) = "outlets") := by decide +kernel
theorem io_ : ¬ (("inlets" : Str) = "outlets") := by decide +kernel
theorem put1 (a : V) : putF "knots" a [] = ([("knots", a)] : List (Str × V)) := rfl
theorem put2 (a b : V) : putF "inlets" b ([("knots", a)] : List (Str × V)) = ([("knots", a), ("inlets", b)] : List (Str × V)) := by
  show (if ("knots" : Str) = "inlets" then [(("knots" : Str), b)] else (("knots" : Str), a) :: putF "inlets" b []) = ([("knots", a), ("inlets", b)] : List (Str × V))
  rw [if_neg ki_]
  rfl
theorem put3 (a b c : V) : putF "outlets" c ([("knots", a), ("inlets", b)] : List (Str × V)) = ([("knots", a), ("inlets", b), ("outlets", c)] : List (Str × V)) := by
  show (if ("knots" : Str) = "outlets" then (("knots" : Str), c) :: [(("inlets" : Str), b)] else (("knots" : Str), a) :: (if ("inlets" : Str) = "outlets" then [(("inlets" : Str), c)] else (("inlets" : Str), b) :: putF "outlets" c [])) = ([("knots", a), ("inlets", b), ("outlets", c)] : List (Str × V))
  rw [if_neg ko_, if_neg io_]
  rfl
theorem ok_init (T : Tx K mg ad) : FnOk P w K mg base CX0 6 ad.init ad.dInit ["self", "knots", "inlets", "outlets"] (spInit ad.cNet) := by
  have G1 : FnOk P w K mg base CX0 2 ad.kinds ad.dKinds ["knots", "inlets", "outlets"] spKinds := ok_kinds T
  have G2 : FnOk P w K mg base CX0 3 ad.names ad.dNames ["names"] spNames := ok_names T
  have G3 : FnOk P w K mg base CX0 5 ad.rows ad.dRows ["knots", "outlets"] spRows := ok_rows T
  have G4 : FnOk P w K mg base CX0 2 ad.inlets ad.dInlets ["knots", "inlets"] spInlets := ok_inlets T
  have G5 : FnOk P w K mg base CX0 4 ad.chMet ad.dChMet ["knots", "inlets"] spChMet := ok_chMet T
  have b1 := T.fKinds.binds (ps := ["knots", "inlets", "outlets"]) fun _ _ _ _ _ _ us hl => match us, hl with | [_, _, _], _ => rfl
  have b2 := T.fNames.binds (ps := ["names"]) fun _ _ _ _ _ _ us hl => match us, hl with | [_], _ => rfl
  have b3 := T.fRows.binds (ps := ["knots", "outlets"]) fun _ _ _ _ _ _ us hl => match us, hl with | [_, _], _ => rfl
  have b4 := T.fInlets.binds (ps := ["knots", "inlets"]) fun _ _ _ _ _ _ us hl => match us, hl with | [_, _], _ => rfl
  have b5 := T.fChMet.binds (ps := ["knots", "inlets"]) fun _ _ _ _ _ _ us hl => match us, hl with | [_, _], _ => rfl
  refine T.fInit.ok scInit (fun vs H Q E h => ?_) (fun cdv A outer s H vs Q E hr h => ?_)
  · obtain ⟨H0, x, dx, a, b, c, kv, iv, ks, is, os, rfl, _⟩ := h
    rfl
  · obtain ⟨H0, x, dx, a, b, c, kv, iv, ks, is, os, rfl, e0, x0, hx, N, hc, ok, k⟩ := h
    have hr2 : Room 2 _ := hr.mono (by decide)
    have hr3 : Room 3 _ := hr.mono (by decide)
    have hr4 : Room 4 _ := hr.mono (by decide)
    refine ⟨_, pss_cons (ps_expr (pe_call G1 hr2 (by rfl) T.gKinds T.fKinds.kp b1 .nil pass0 (pa_cons (pv 1) (pa_cons (pv 2) (pa_cons (pv 3) pa_nil)))))
      (pss_cons (ps_expr (pe_call G2 hr3 (by rfl) T.gNames T.fNames.kp b2 .nil pass0 (pa_cons (pe_lst (pa_starD rfl (pv 1) (pa_star (pv 3) (pa_starD rfl (pv 2) pa_nil)))) pa_nil)))
      (pss_cons (ps_expr (pe_call G3 hr (by rfl) T.gRows T.fRows.kp b3 .nil pass0 (pa_cons (pv 1) (pa_cons (pv 3) pa_nil))))
      (pss_cons (ps_expr (pe_call G4 hr2 (by rfl) T.gInlets T.fInlets.kp b4 .nil pass0 (pa_cons (pv 1) (pa_cons (pv 2) pa_nil))))
      (pss_cons (ps_expr (pe_call G5 hr4 (by rfl) T.gChMet T.fChMet.kp b5 .nil pass0 (pa_cons (pv 1) (pa_cons (pv 2) pa_nil))))
      (pss_cons (ps_fld (pv 0) (pe_dc (own := [("knot", 4)]) (g := gName 4) (tt := tYes) rfl scInit.nd (pi_list (pe_callB (call_sortedD rfl) (by rfl) T.sorted b_sorted (pa_cons (pv 1) pa_nil))) (blkOk_by (N := ["self", "knots", "inlets", "outlets", "knot", "inlet"]) (sc := defScope sInit) (by decide +kernel))
        (fun _ _ _ _ _ => pg_name (i := 4) scInit.nd rfl (Or.inl rfl)) (fun _ _ _ _ _ => pts_nil) (fun _ _ _ _ _ => pv 4) (fun _ _ _ _ _ => pe_dget (hu_of hr) (pv 1) (pv 4) (fun _ _ => rfl))) rfl)
      (pss_cons (ps_fld (pv 0) (pe_dc (own := [("inlet", 5)]) (g := gName 5) (tt := tYes) rfl scInit.nd (pi_list (pe_callB (call_sortedD rfl) (by rfl) T.sorted b_sorted (pa_cons (pv 2) pa_nil))) (blkOk_by (N := ["self", "knots", "inlets", "outlets", "knot", "inlet"]) (sc := defScope sInit) (by decide +kernel))
        (fun _ _ _ _ _ => pg_name (i := 5) scInit.nd rfl (Or.inl rfl)) (fun _ _ _ _ _ => pts_nil) (fun _ _ _ _ _ => pv 5) (fun _ _ _ _ _ => pe_dget (hu_of hr) (pv 2) (pv 5) (fun _ _ => rfl))) rfl)
      (pss_one (ps_fld (pv 0) (pe_callTy call_tuple_of (by rfl) T.tuple b_tuple (pa_cons (pe_callB (CallR.or cr_sortedS cr_sortT) (by rfl) T.sorted b_sorted (pa_cons (pv 3) pa_nil)) pa_nil)) rfl)))))))), ?_⟩
    have hkeys : kv.map (·.1) = (kn ks).map Sum.inr := by rw [N.hkv.keys, kd_keys]
    have hikeys : iv.map (·.1) = (inn is).map Sum.inr := by rw [N.hiv.keys, id_keys]
    have kvl : kv.length = ks.length := by rw [N.hkv.length]; exact List.length_map _
    have ivl : iv.length = is.length := by rw [N.hiv.length]; exact List.length_map _
    have knl : (kn ks).length = ks.length := List.length_map _
    have inl_ : (inn is).length = is.length := List.length_map _
    have okn := ok.names
    have nd2 : (kn ks ++ os).Nodup := (List.nodup_append.mp okn.nd).1
    have few2 : (kn ks ++ os).length ≤ 1000 := by
      have := okn.few
      rw [List.length_append] at this
      omega
    have kf := ok.few
    have ks1 := ok.some
    have is1 := ok.insome
    have of_ := ok.ofew
    have ilen := N.ilen
    refine q_drop (ev_call (v := .non) (ea_cons (ev_tv rfl) fun _ _ => ea_cons (ev_tv rfl) fun _ _ => ea_cons (ev_tv rfl) fun _ _ => ea_nil) fun H1 e1 Q1 q1 => ⟨a, b, c, kv, iv, os.map V.str, rfl, e1 _ _ (e0 _ _ N.ha), e1 _ _ (e0 _ _ N.hb), hc.imp (fun h => e1 _ _ (e0 _ _ h)) (fun h => e1 _ _ (e0 _ _ h)), by omega, by omega, by omega, q1⟩) fun H1 e1 => ?_
    refine q_drop (ev_callL (v := .non) (el_star3 (K := K) (a := a) (b := b) (c := c) (ks := kn ks) (is := inn is) (os := os) (ev_tv rfl) (e1 _ _ (e0 _ _ N.ha)) hkeys (fun _ _ => ev_tv rfl) (hc.imp (fun h => e1 _ _ (e0 _ _ h)) (fun h => e1 _ _ (e0 _ _ h))) (fun _ _ => ev_tv rfl) (e1 _ _ (e0 _ _ N.hb)) hikeys (by have := okn.few; omega)) fun p H2 e2 hxs Q2 q2 => ⟨p, _, rfl, hxs, okn, q2⟩) fun H2 e2 => ?_
    refine q_drop (ev_call (v := .non) (ea_cons (ev_tv rfl) fun _ _ => ea_cons (ev_tv rfl) fun _ _ => ea_nil) fun H3 e3 Q3 q3 => ⟨a, c, kv, ks, os, rfl, e3 _ _ (e2 _ _ (e1 _ _ (e0 _ _ N.ha))), N.hkv.go (e0.trans (e1.trans (e2.trans e3))), hc.imp (fun h => e3 _ _ (e2 _ _ (e1 _ _ (e0 _ _ h)))) (fun h => e3 _ _ (e2 _ _ (e1 _ _ (e0 _ _ h)))), nd2, few2, by omega, ok.rows, q3⟩) fun H3 e3 => ?_
    have e03 := e0.trans (e1.trans (e2.trans e3))
    refine q_drop (ev_call (v := .non) (ea_cons (ev_tv rfl) fun _ _ => ea_cons (ev_tv rfl) fun _ _ => ea_nil) fun H4 e4 Q4 q4 => ⟨a, b, kv, iv, ks, is, rfl, N.ne, e4 _ _ (e03 _ _ N.ha), N.hkv.go (e03.trans e4), N.kn, e4 _ _ (e03 _ _ N.hb), N.hiv.go (e03.trans e4), N.leads, q4⟩) fun H4 e4 => ?_
    refine q_drop (ev_call (v := .non) (ea_cons (ev_tv rfl) fun _ _ => ea_cons (ev_tv rfl) fun _ _ => ea_nil) fun H5 e5 Q5 q5 => ⟨a, b, kv, iv, ks, is, rfl, N.go (e03.trans (e4.trans e5)), ok.met, q5⟩) fun H5 e5 => ?_
    have e05 := e03.trans (e4.trans e5)
    have hx5 : H5 x = some (.ins ad.cNet dx []) := e5 _ _ (e4 _ _ (e3 _ _ (e2 _ _ (e1 _ _ hx))))
    have N5 := N.go e05
    refine q_fldK (K := K) (ek_dc (K := K) (zs := srt (kn ks)) (g := fun z => (valV kv (.inr z)).getD .non) (el_sortedD (ev_tv rfl) N5.ha hkeys (by omega)) ((srt_perm _).nodup_iff.mpr N.kn) (by rw [(srt_perm _).length_eq]; omega) (fun _ => rfl) fun z H' hz e => ⟨ev_tv rfl, ?_⟩) (fun _ _ => ev_tv rfl) hx5 T.cl T.nKnots (by decide) fun ka H6 hka e6 hkd => ?_
    · have hm : z ∈ kn ks := (srt_perm _).mem_iff.mp hz
      obtain ⟨⟨z', r⟩, hm2, rfl⟩ := List.mem_map.mp hm
      obtain ⟨v, hv, hd⟩ := N.hkv.get (kd_get N.kn hm2)
      show Ev _ _ _ ((valV kv (.inr z')).getD .non)
      rw [hv]
      exact ev_dget (k := .inr z') (ev_tv rfl) (fun _ _ => ev_tv rfl) (e _ _ N5.ha) hv
    have kax : ka ≠ x := (ne_of_none hx5 hka).symm
    have e06 : Same H0 (upd H6 x (.ins ad.cNet dx (putF "knots" (.ref ka) []))) := Same.mut (e05.trans e6) x0
    have N6 := N.go e06
    refine q_fldK (K := K) (ek_dc (K := K) (zs := srt (inn is)) (g := fun z => (valV iv (.inr z)).getD .non) (el_sortedD (ev_tv rfl) N6.hb hikeys (by omega)) ((srt_perm _).nodup_iff.mpr N.inn) (by rw [(srt_perm _).length_eq]; omega) (fun _ => rfl) fun z H' hz e => ⟨ev_tv rfl, ?_⟩) (fun _ _ => ev_tv rfl) upd_same T.cl T.nInlets (by show 1 < 1000; decide) fun ia H7 hia e7 hid => ?_
    · have hm : z ∈ inn is := (srt_perm _).mem_iff.mp hz
      obtain ⟨⟨z', r⟩, hm2, rfl⟩ := List.mem_map.mp hm
      obtain ⟨v, hv, hd⟩ := N.hiv.get (id_get N.inn hm2)
      show Ev _ _ _ ((valV iv (.inr z')).getD .non)
      rw [hv]
      exact ev_dget (k := .inr z') (ev_tv rfl) (fun _ _ => ev_tv rfl) (e _ _ N6.hb) hv
    have iax : ia ≠ x := fun z => by
      rw [z, upd_same] at hia
      cases hia
    have ika : ka ≠ ia := fun z => by
      rw [← z, upd_ne kax, hkd] at hia
      cases hia
    have e07 := Same.mut (o := HO.ins ad.cNet dx (putF "inlets" (.ref ia) (putF "knots" (.ref ka) []))) (e06.trans e7) x0
    have hc7 := hc.imp (fun h => e07 _ _ h) (fun h => e07 _ _ h)
    refine s_fldU (K := K) (eu_tupOf (el_sortLT (ev_tv rfl) hc7 (by omega))) (fun _ _ => ev_tv rfl) upd_same T.cl T.nOutlets (by rw [put1, put2]; show 2 < 1000; decide) fun oa H8 hoa e8 hod => ?_
    have oax : oa ≠ x := fun z => by
      rw [z, upd_same] at hoa
      cases hoa
    refine k _ (Same.mut (e07.trans e8) x0) ⟨⟨dx, ka, ia, oa, (srt (kn ks)).map fun z => ((.inr z : Key), (valV kv (.inr z)).getD .non), (srt (inn is)).map fun z => ((.inr z : Key), (valV iv (.inr z)).getD .non), ?_, ?_, ?_, ?_, ?_, ?_, (e05.free hka), ?_⟩⟩
    · rw [upd_same, put1, put2, put3]
    · rw [upd_ne kax]
      exact e8 _ _ (by rw [upd_ne kax]; exact e7 _ _ (by rw [upd_ne kax]; exact hkd))
    · have q := dk_sorted (N.hkv.go (Same.mut (o := HO.ins ad.cNet dx (putF "outlets" (.ref oa) (putF "inlets" (.ref ia) (putF "knots" (.ref ka) [])))) (e07.trans e8) x0))
      have ek : (kd ks).map (fun p => p.1) = kn ks := kd_keys ks
      rw [ek] at q
      exact q
    · rw [upd_ne iax]
      exact e8 _ _ (by rw [upd_ne iax]; exact hid)
    · have q := dk_sorted (N.hiv.go (Same.mut (o := HO.ins ad.cNet dx (putF "outlets" (.ref oa) (putF "inlets" (.ref ia) (putF "knots" (.ref ka) [])))) (e07.trans e8) x0))
      have ek : (id_ is).map (fun p => p.1) = inn is := id_keys is
      rw [ek] at q
      exact q
    · rw [upd_ne oax]
      exact hod
    · exact e06.free hia
end
end Bc

/-! len(o), x in o, o == x, o != p by an own class's __len__, __contains__, __eq__; == of dicts of data -/
namespace Bc
open PySem PySem.W PyProof.Rows
section
variable {s : Shared} {prog : Program} {w : World} {A : Around} {E : Value → Shared → Prop} {K : Frag} {x C f : Addr} {ox : Obj} {od : Option Obj} {b : Value} {h₀ : Heap} {L : Addr} {m : Str → Option Value}
theorem objNe_K (hu : A.units < cLine) (X : K.In s.heap) (I : InstAt s.heap x ox C od) (hs : findIn K (.ref C) "__eq__" = some (some (.ref f))) (hf : isFn K (.ref f) = true) {Q : Fin → Shared → Prop}
    (hcall : wpAny (model prog w) A (call (.ref f) [.ref x, b]) (fun v s' => ∃ r, v = .bool r ∧ Q (.done (.ret (.bool (!r)))) s') E s) : wpAny (model prog w) A (Builtin.«object.__ne__» ⟨[.ref x, b], []⟩) Q E s := by
  obtain ⟨hp, g, d, t, os⟩ := s; unfold Builtin.«object.__ne__»
  repeat (first
    | (refine wpAny_bind (m := callSpecialIfBound? (.ref x) (Str.ofString "__eq__") [b])
        (ifBound_K X I hs hf (wpAny_mono hcall (fun r s' hr => by
          obtain ⟨b, rfl, hq⟩ := hr
          repeat (first | exact wpAny_truthy_bool hq | exact wpAny_pure hq | exact hq | (refine wpAny_bind (m := truthy (.bool _)) (wpAny_truthy_bool ?_)) | wp_step)) fun _ _ e => e)))
    | (with_reducible refine wpAny_cRoomFor hu ?_)
    | wp_step)
theorem ifBound_slot {M : Model} {T id : String} {name : Str} {args : List Value} {Q : Option Value → Shared → Prop} (X : K.In s.heap) (I : InstAt s.heap x ox C od) (hs : findIn K (.ref C) name = some (some (.builtin id))) (sl : Slot T name id)
    (h : wpAny M A (call (.builtin id) (.ref x :: args)) (fun v => Q (some v)) E s) : wpAny M A (callSpecialIfBound? (.ref x) name args) Q E s := by
  simp only [callSpecialIfBound?, bindSpecialIfBound?]; refine wpAny_holding (wpAny_bind (wpAny_bind (wpAny_bind (I.type.here ((looks_findIn X hs).here ?_)))))
  refine wpAny_bind (wpAny_askSetting (wpAny_ite ?_)); have fin : wpAny M A (call (.builtin id) ([.ref x] ++ args) >>= fun v => pure (some v)) Q E s := wpAny_bind (wpAny_mono h (fun v s' h' => wpAny_pure h') fun _ _ h' => h')
  split
  · exact wpAny_bind (wpAny_of_eq (sl.bind _) (wpAny_pure (by exact fin)))
  · exact wpAny_tryCatch (wpAny_bind (wpAny_of_eq (sl.bind _) (wpAny_pure (by exact fin))))
theorem cmpNe_K {bm : List Value} {nm q : Str} {N : Addr} {bs : List Value} {hdct : Bool} {sn : List Str} {sub : List Value} {ab : Bool} {col : Option Bool} {dd : Option Addr} {k0 k1 k2 k3 k5 : Option Value} {newId : String} {Q : Value → Shared → Prop} (hu : A.units + 1 < cLine) (X : K.In s.heap) (I : InstAt s.heap x ox C od)
    (hC : s.heap.get? C = some (excClassObj nm q C N bs bm hdct sn sub ab col dd k0 k1 k2 k3 k5 newId)) (hob : bm.contains (.type "object") = true) (hb : Looks (model prog w) s.heap (typeOf b) (.ref C))
    (hne : findIn K (.ref C) "__ne__" = some (some (.builtin "object.__ne__"))) (hs : findIn K (.ref C) "__eq__" = some (some (.ref f))) (hf : isFn K (.ref f) = true)
    (h : wpAny (model prog w) A.in1 (call (.ref f) [.ref x, b]) (fun v s' => ∃ r, v = .bool r ∧ Q (.bool (!r)) s') E s) : wpAny (model prog w) A (richCompare .NotEq (.ref x) b) Q E s := by
  have one : wpAny (model prog w) A (tryCompare (.ref x) "__ne__" b) (fun r s' => ∃ v, r = some v ∧ Q v s') E s := by
    unfold tryCompare
    refine wpAny_bind (ifBound_slot X I hne F.cmp_object.ne (wpAny_call ?_))
    obtain ⟨hp, g, d, t, os⟩ := s
    refine codeAny_call_builtin F.cmp_object.ne.plain F.cmpEntry_ne (wpAny_check_slot_inst F.cmpKind_ne F.cmpSplit_ne (F.cmpArgs_ne _ _) hob I.at_ I.cls hC (objNe_K (A := A.in1) (by show A.units + 1 < cLine; exact hu) X I hs hf (wpAny_mono h (fun v s' hv => ?_) fun _ _ e => e)))
    obtain ⟨r, rfl, hq⟩ := hv
    exact ⟨r, rfl, wpAny_pure ⟨_, rfl, hq⟩⟩
  unfold richCompare
  simp only [oneThing_ref]
  refine wpAny_holding (wpAny_bind (wpAny_cRoomFor (Nat.lt_of_succ_lt hu) ?_))
  rw [cmpInfo_NotEq]
  dsimp only
  refine wpAny_bind (I.type.here (wpAny_bind (hb.here ?_))); rw [show (Value.ref C != Value.ref C) = false from by simp]
  simp only [Bool.false_eq_true, if_false]; refine wpAny_bind (wpAny_pure ?_)
  simp only [Bool.false_eq_true, if_false]; refine wpAny_bind (wpAny_mono one (fun r s' z => ?_) fun _ _ e => e)
  obtain ⟨v, rfl, hq⟩ := z
  exact wpAny_pure hq
end
end Bc

namespace Bc
open L2 PySem PySem.Spec PyProof.Rows
section
variable {X : Cx} {CX : CXT} {k : Nat} {g C : Addr} {fd : FuncData} {ps : List Str} {sp : Sp} {E : XK}
/-- a call of a method's def, somewhere below the running body -/
theorem run_own (F : FnOk X.prog X.w X.K X.mg X.base CX k g fd ps sp) (hb : Binds X.K fd ps []) (hx : Passes CX X E) {pz : List (Addr × Obj)} {σ : L2.St} {H : Hp} {s : Shared} {A : Around} {Q : VK} {uz : List Value} {vs : List V} (I : Inv X pz σ H s) (hA : Room k A) (hfr : A.frames = X.A.frames)
    (r : Vals vs uz) (h : sp vs H Q E) : wpAny (model X.prog X.w) A (call (.ref g) uz) (EP X pz σ Q) X.xe s := by
  have ez0 : Env0 X.prog X.w X.K X.mg X.base A X.stack s H := by
    have e := I.env0
    exact ⟨by rw [hfr]; exact e.frames, e.mod, e.bs, e.bsz, e.funs, e.frf, e.hok, e.bare⟩
  have hl := F.len _ _ _ _ h
  refine wpAny_call (codeAny_mono (F.run A X.stack s H ⟨uz, []⟩ uz vs Q E hA ez0 (by
    have := hb s uz I.kIn (by rw [List.append_nil, ← r.length]; exact hl)
    simpa using this) r h) fun rr s' hq => ?_)
  cases rr with
  | error e => exact hx pz σ H s e s' I hq
  | ok fl =>
    cases fl with
    | ret w => exact I.after hq
    | next => exact False.elim hq
    | brk => exact False.elim hq
    | cont => exact False.elim hq
/-- what is known of the class's own methods -/
structure OwnM (K : PySem.W.Frag) (C g : Addr) (name : Str) : Prop where
  find : PySem.W.findIn K (.ref C) name = some (some (.ref g))
  fn : PySem.W.isFn K (Value.ref g) = true
/-- len(o) -/
def rLenO (C : Addr) (sp : Sp) (E : XK) : List V → Hp → VK → Prop := fun xs H Q => ∃ a dx fs, xs = [.ref a] ∧ H a = some (.ins C dx fs) ∧ sp [.ref a] H (fun v H' => ∃ n : Nat, v = .int n ∧ (n : Int) < 2 ^ 63 ∧ Q (.int n) H') E
theorem cr_lenO (F : FnOk X.prog X.w X.K X.mg X.base CX k g fd ps sp) (hb : Binds X.K fd ps []) (hx : Passes CX X E) (hr : Room (k + 1) X.A) (o : OwnM X.K C g "__len__") : CallR X (.builtin "len") (rLenO C sp E) := by
  intro pz s σ H xs uz Q I r h
  obtain ⟨a, dx, fs, rfl, ha, hsp⟩ := h
  obtain ⟨u, rfl, ruz⟩ := vals1 r
  cases (show u = Value.ref a from ruz)
  obtain ⟨mAz, J, _⟩ := ins_get I.hok ha
  obtain ⟨od, J, _⟩ := J.look
  obtain ⟨m, hF⟩ := I.fr
  refine PySem.W.len_K hF I.ok.mod.kin J o.find o.fn (wpAny_mono (run_own F hb hx I (A := X.A.in1) hr.in1 rfl r hsp) (fun v s' q => ?_) fun _ _ z => z)
  obtain ⟨v', H', I', rvz, n, rfl, hn, q⟩ := q
  obtain ⟨t, rfl⟩ := rvz
  refine ⟨⟨Int.natCast_nonneg n, hn⟩, ?_⟩
  exact ⟨.int n, H', I'.tok _, ⟨_, rfl⟩, q⟩
/-- x in o, x not in o -/
def rInO (C : Addr) (sp : Sp) (E : XK) (neg : Bool) : R2 := fun x y H Q => ∃ a dx fs, y = .ref a ∧ H a = some (.ins C dx fs) ∧ sp [.ref a, x] H (fun v H' => ∃ b : Bool, v = .bl b ∧ Q (.bl (if neg then !b else b)) H') E
theorem op_inO (F : FnOk X.prog X.w X.K X.mg X.base CX k g fd ps sp) (hb : Binds X.K fd ps []) (hx : Passes CX X E) (hr : Room k X.A) (o : OwnM X.K C g "__contains__") : OpR X (compareOp .In) (rInO C sp E false) := by
  intro pz s σ H x y v u Q I rz ryz h
  obtain ⟨a, dx, fs, rfl, ha, hsp⟩ := h
  cases (show u = Value.ref a from ryz)
  obtain ⟨mAz, J, _⟩ := ins_get I.hok ha
  obtain ⟨od, J, _⟩ := J.look
  obtain ⟨m, hF⟩ := I.fr
  refine PySem.W.in_K hF I.ok.mod.kin J o.find o.fn (wpAny_mono (run_own F hb hx I hr rfl (show Vals [V.ref a, x] [Value.ref a, v] from .cons (show RelV (.ref a) (.ref a) from rfl) (.cons rz .nil)) hsp) (fun w s' q => ?_) fun _ _ z => z)
  obtain ⟨v', H', I', rvz, b, rfl, q⟩ := q
  cases (show w = Value.bool b from rvz)
  exact wpAny_truthy_bool ⟨.bl b, H', I', rfl, q⟩
theorem op_notInO (F : FnOk X.prog X.w X.K X.mg X.base CX k g fd ps sp) (hb : Binds X.K fd ps []) (hx : Passes CX X E) (hr : Room k X.A) (o : OwnM X.K C g "__contains__") : OpR X (compareOp .NotIn) (rInO C sp E true) := by
  intro pz s σ H x y v u Q I rz ryz h
  obtain ⟨a, dx, fs, rfl, ha, hsp⟩ := h
  cases (show u = Value.ref a from ryz)
  obtain ⟨mAz, J, _⟩ := ins_get I.hok ha
  obtain ⟨od, J, _⟩ := J.look
  obtain ⟨m, hF⟩ := I.fr
  refine PySem.W.notIn_K hF I.ok.mod.kin J o.find o.fn (wpAny_mono (run_own F hb hx I hr rfl (show Vals [V.ref a, x] [Value.ref a, v] from .cons (show RelV (.ref a) (.ref a) from rfl) (.cons rz .nil)) hsp) (fun w s' q => ?_) fun _ _ z => z)
  obtain ⟨v', H', I', rvz, b, rfl, q⟩ := q
  cases (show w = Value.bool b from rvz)
  exact wpAny_truthy_bool ⟨.bl (!b), H', I', rfl, q⟩
/-- what the other side of == may be -/
inductive Oth (K : PySem.W.Frag) (C : Addr) (H : Hp) : V → Prop
  | ins {a dx : Addr} {fs : List (Str × V)} : H a = some (.ins C dx fs) → Oth K C H (.ref a)
  | int (i : Int) : PySem.W.notFirst K C (.type "int") = true → Oth K C H (.int i)
  | dict {a : Addr} {kvs : List (Key × V)} : H a = some (.dK kvs) → PySem.W.notFirst K C (.type "dict") = true → Oth K C H (.ref a)
/-- o == y -/
def rEqO (K : PySem.W.Frag) (C : Addr) (sp : Sp) (E : XK) : R2 := fun x y H Q => ∃ a dx fs, x = .ref a ∧ H a = some (.ins C dx fs) ∧ Oth K C H y ∧ sp [.ref a, y] H (fun v H' => ∃ b : Bool, v = .bl b ∧ Q (.bl b) H') E
theorem op_eqO (F : FnOk X.prog X.w X.K X.mg X.base CX k g fd ps sp) (hb : Binds X.K fd ps []) (hx : Passes CX X E) (hr : Room k X.A) (o : OwnM X.K C g "__eq__") : OpR X (compareOp .Eq) (rEqO X.K C sp E) := by
  intro pz s σ H x y v u Q I rz ryz h
  obtain ⟨a, dx, fs, rfl, ha, hy, hsp⟩ := h
  cases (show v = Value.ref a from rz)
  obtain ⟨mAz, J, _⟩ := ins_get I.hok ha
  obtain ⟨od, J, _⟩ := J.look
  obtain ⟨m, hF⟩ := I.fr
  have fin : wpAny (model X.prog X.w) X.A (call (.ref g) [.ref a, u]) (PySem.W.CmpBack (EP X pz σ Q)) X.xe s := wpAny_mono (run_own F hb hx I hr rfl (show Vals [V.ref a, y] [Value.ref a, u] from .cons (show RelV (.ref a) (.ref a) from rfl) (.cons ryz .nil)) hsp) (fun w s' q => by
    obtain ⟨v', H', I', rvz, b, rfl, q⟩ := q
    cases (show w = Value.bool b from rvz)
    exact ⟨.bl b, H', I', rfl, q⟩) fun _ _ z => z
  show wpAny (model X.prog X.w) X.A (richCompare .Eq (.ref a) u) (EP X pz σ Q) X.xe s
  cases hy with
  | @ins b dy gs hb' =>
    cases (show u = Value.ref b from ryz)
    obtain ⟨mBz, J', _⟩ := ins_get I.hok hb'
    obtain ⟨od', J', _⟩ := J'.look; exact PySem.W.cmp_K (op := .Eq) (tb := .ref C) hr.units0 hF I.ok.mod.kin J J'.type (by simp [PySem.W.notFirst]) o.find o.fn fin
  | int i nf =>
    obtain ⟨t, rfl⟩ := ryz
    exact PySem.W.cmp_K (op := .Eq) (tb := .type "int") hr.units0 hF I.ok.mod.kin J PySem.W.Looks.now nf o.find o.fn fin
  | @dict b kvs hb' nf =>
    cases (show u = Value.ref b from ryz)
    obtain ⟨_, _, vs, _, ob, es, ep, h1, h2, _⟩ := (show ObjOk X.prog X.w H s.heap b (.dK kvs) from I.hok b _ hb')
    refine PySem.W.cmp_K (op := .Eq) (tb := .type "dict") hr.units0 hF I.ok.mod.kin J ?_ nf o.find o.fn fin
    have hcls : ob.cls = .type "dict" := h2.1
    exact hcls ▸ (PySem.W.Looks.ld h1).andThen .now
/-- o != p, both of the class -/
def rNeO (C : Addr) (sp : Sp) (E : XK) : R2 := fun x y H Q => ∃ a b dx dy fs gs, x = .ref a ∧ y = .ref b ∧ H a = some (.ins C dx fs) ∧ H b = some (.ins C dy gs) ∧ sp [.ref a, .ref b] H (fun v H' => ∃ r : Bool, v = .bl r ∧ Q (.bl (!r)) H') E
/-- the class's object -/
def ClsObj (K : PySem.W.Frag) (C : Addr) : Prop := ∃ (nm q : Str) (N : Addr) (bs bm : List Value) (hdct : Bool) (sn : List Str) (sub : List Value) (ab : Bool) (col : Option Bool) (dd : Option Addr) (k0 k1 k2 k3 k5 : Option Value) (newId : String),
  K.lookup C = some (excClassObj nm q C N bs bm hdct sn sub ab col dd k0 k1 k2 k3 k5 newId) ∧ bm.contains (.type "object") = true
theorem op_neO (F : FnOk X.prog X.w X.K X.mg X.base CX k g fd ps sp) (hb : Binds X.K fd ps []) (hx : Passes CX X E) (hr : Room (k + 1) X.A) (o : OwnM X.K C g "__eq__") (hne : PySem.W.findIn X.K (.ref C) "__ne__" = some (some (.builtin "object.__ne__"))) (hC : ClsObj X.K C) : OpR X (compareOp .NotEq) (rNeO C sp E) := by
  intro pz s σ H x y v u Q I rz ryz h
  obtain ⟨a, b, dx, dy, fs, gs, rfl, rfl, ha, hb', hsp⟩ := h
  cases (show v = Value.ref a from rz)
  cases (show u = Value.ref b from ryz)
  obtain ⟨mAz, J, _⟩ := ins_get I.hok ha
  obtain ⟨od, J, _⟩ := J.look
  obtain ⟨mBz, J', _⟩ := ins_get I.hok hb'
  obtain ⟨od', J', _⟩ := J'.look; obtain ⟨nm, q, N, bs, bm, hdct, sn, sub, ab, col, dd, k0, k1, k2, k3, k5, newId, hK, hob⟩ := hC
  show wpAny (model X.prog X.w) X.A (richCompare .NotEq (.ref a) (.ref b)) (EP X pz σ Q) X.xe s
  refine cmpNe_K (hu_of hr) I.kIn J (I.kIn _ _ hK) hob J'.type hne o.find o.fn (wpAny_mono (run_own F hb hx I (A := X.A.in1) hr.in1 rfl (show Vals [V.ref a, V.ref b] [Value.ref a, Value.ref b] from .cons (show RelV (.ref a) (.ref a) from rfl) (.cons (show RelV (.ref b) (.ref b) from rfl) .nil)) hsp) (fun w s' q => ?_) fun _ _ z => z)
  obtain ⟨v', H', I', rvz, r, rfl, q⟩ := q
  cases (show w = Value.bool r from rvz)
  exact ⟨r, rfl, .bl (!r), H', I', rfl, q⟩
end
/-! ### == of dicts of data -/
def eqDK (da db : List (Str × PyData)) : Bool := da.length == db.length && da.all fun p => match db.lookup p.1 with | none => false | some d => PyData.eqv p.2 d
theorem hits_data {A : Around} {X : Cx} {pz : List (Addr × Obj)} {σ : L2.St} {H : Hp} {s : Shared} (I : Inv X pz σ H s) (hu : A.in1.units + 64 < cLine) {ls : List (Key × V)} {db : List (Str × PyData)} {vb : List (Key × Value)} (hb : Dk H ls db) (rb : KV ls vb) (sbz : ∀ p ∈ db, SeqAt.shaped p.2 = true) :
    ∀ {ks : List (Key × V)} {da : List (Str × PyData)} {va : List (Key × Value)}, Dk H ks da → KV ks va → (∀ p ∈ da, SeqAt.shaped p.2 = true) → PySem.W.KeqHits A.in1 s vb va (da.all fun p => match db.lookup p.1 with | none => false | some d => PyData.eqv p.2 d)
  | _, _, _, .nil, .nil, _ => .nil
  | _, _, _, .cons (k := k) (d := d) h t, .cons (b := q) r tr, sa => by
    obtain ⟨k', v⟩ := q
    obtain ⟨h1, h2⟩ := r
    have h1' : (Sum.inr k : Key) = k' := h1
    subst h1'
    have ih := hits_data I hu hb rb sbz t tr fun p hp => sa p (List.mem_cons_of_mem _ hp)
    rw [List.all_cons]
    have rr := rb.val (Sum.inr k)
    cases hl : db.lookup k with
    | none =>
      rw [hb.none hl] at rr
      simp only [hl]
      exact .miss rr.none_of
    | some e =>
      obtain ⟨u, hu2, hdt⟩ := hb.get hl
      rw [hu2] at rr
      obtain ⟨y, hy, ryz⟩ := rr.some_of
      obtain ⟨as, r1⟩ := Dp.reads I d _ v (Dt.dp (K := X.K) _ _ h) h2
      obtain ⟨bs, r2⟩ := Dp.reads I e _ y (Dt.dp (K := X.K) _ _ hdt) ryz
      simp only [hl]
      exact .hit hy (PySem.W.keq_at r1 r2 (sa _ List.mem_cons_self) (sbz _ (lookup_mem hl)) hu) ih
section
variable {X : Cx}
def rEqDK : R2 := fun x y H Q => ∃ a b ks ls da db, x = .ref a ∧ y = .ref b ∧ H a = some (.dK ks) ∧ H b = some (.dK ls) ∧ Dk H ks da ∧ Dk H ls db ∧ (∀ p ∈ da, SeqAt.shaped p.2 = true) ∧ (∀ p ∈ db, SeqAt.shaped p.2 = true) ∧ Q (.bl (eqDK da db)) H
def rNeDK : R2 := fun x y H Q => ∃ a b ks ls da db, x = .ref a ∧ y = .ref b ∧ H a = some (.dK ks) ∧ H b = some (.dK ls) ∧ Dk H ks da ∧ Dk H ls db ∧ (∀ p ∈ da, SeqAt.shaped p.2 = true) ∧ (∀ p ∈ db, SeqAt.shaped p.2 = true) ∧ Q (.bl (!eqDK da db)) H
theorem op_eqDK (hu : X.A.in1.units + 64 < cLine) : OpR X (compareOp .Eq) rEqDK := by
  intro pz s σ H x y v u Q I rz ryz h
  obtain ⟨a, b, ks, ls, da, db, rfl, rfl, ea, eb, h1, h2, s1, s2, q⟩ := h
  obtain rfl : v = Value.ref a := rz
  obtain rfl : u = Value.ref b := ryz
  obtain ⟨_, ya, va, ra, dda⟩ := (show ObjOk X.prog X.w H s.heap a (.dK ks) from I.hok a _ ea)
  obtain ⟨_, yb, vb, rb, ddb⟩ := (show ObjOk X.prog X.w H s.heap b (.dK ls) from I.hok b _ eb)
  refine PySem.W.keq_eq (knd := mixKind X.prog X.w) ya yb dda ddb (Nat.lt_of_le_of_lt (by show X.A.units ≤ X.A.units + 1 + 64; omega) hu) (fun _ => hits_data I hu h2 rb s2 h1 ra s1) (fin_bl I q ?_)
  unfold eqDK
  rw [← h1.length, ← h2.length, ra.length, rb.length]
theorem op_neDK (hu : X.A.in1.units + 64 < cLine) : OpR X (compareOp .NotEq) rNeDK := by
  intro pz s σ H x y v u Q I rz ryz h
  obtain ⟨a, b, ks, ls, da, db, rfl, rfl, ea, eb, h1, h2, s1, s2, q⟩ := h
  obtain rfl : v = Value.ref a := rz
  obtain rfl : u = Value.ref b := ryz
  obtain ⟨_, ya, va, ra, dda⟩ := (show ObjOk X.prog X.w H s.heap a (.dK ks) from I.hok a _ ea)
  obtain ⟨_, yb, vb, rb, ddb⟩ := (show ObjOk X.prog X.w H s.heap b (.dK ls) from I.hok b _ eb)
  refine PySem.W.keq_ne (knd := mixKind X.prog X.w) ya yb dda ddb (Nat.lt_of_le_of_lt (by show X.A.units ≤ X.A.units + 1 + 64; omega) hu) (fun _ => hits_data I hu h2 rb s2 h1 ra s1) (fin_bl I q ?_)
  unfold eqDK
  rw [← h1.length, ← h2.length, ra.length, rb.length]
end
end Bc

namespace Bc
open PySem L2 PyProof.Rows StX
/-- more of the class -/
structure Tc (K : PySem.W.Frag) (mg : Str → Option Value) (a : Ad) : Prop where
  tx : Tx K mg a
  oLen : OwnM K a.cNet a.len "__len__"
  oHas : OwnM K a.cNet a.has "__contains__"
  oEq : OwnM K a.cNet a.eq "__eq__"
  ne : PySem.W.findIn K (.ref a.cNet) "__ne__" = some (some (.builtin "object.__ne__"))
  obj : ClsObj K a.cNet
  iC : PySem.W.findIn K (.ref a.cNet) "__class__" = some (some (.builtin "object.__class__"))
  iS : PySem.W.specialIn K (.builtin "object.__class__") "__get__" = some (some (.builtin "getset_descriptor.__get__"))
  iT : PySem.W.takesIn K (.builtin "object.__class__") = some true
  iM : PySem.W.mroIn K a.cNet (.type "object") = some true
  isO : PySem.W.kitOne K (.ref a.cNet) (.ref a.cNet) = some true
  isI : PySem.W.kitOne K (.type "int") (.ref a.cNet) = some false
  isD : PySem.W.kitOne K (.type "dict") (.ref a.cNet) = some false
  isN : PySem.W.kitOne K (.type "NoneType") (.ref a.cNet) = some false
  isS : PySem.W.kitOne K (.type "str") (.ref a.cNet) = some false
  nfI : PySem.W.notFirst K a.cNet (.type "int") = true
  nfD : PySem.W.notFirst K a.cNet (.type "dict") = true
theorem kn_f : (List.lookup ("knots" : Str) ([("knots", V.ref ka), ("inlets", V.ref ia), ("outlets", V.ref oa)] : List (Str × V))) = some (V.ref ka) := rfl
theorem in_f : (List.lookup ("inlets" : Str) ([("knots", V.ref ka), ("inlets", V.ref ia), ("outlets", V.ref oa)] : List (Str × V))) = some (V.ref ia) := by
  have e : (("inlets" : Str) == "knots") = false := by decide +kernel
  rw [List.lookup_cons, e]
  rfl
theorem out_f : (List.lookup ("outlets" : Str) ([("knots", V.ref ka), ("inlets", V.ref ia), ("outlets", V.ref oa)] : List (Str × V))) = some (V.ref oa) := by
  have e : (("outlets" : Str) == "knots") = false := by decide +kernel
  have e2 : (("outlets" : Str) == "inlets") = false := by decide +kernel
  rw [List.lookup_cons, e]
  show List.lookup ("outlets" : Str) ([("inlets", V.ref ia), ("outlets", V.ref oa)] : List (Str × V)) = _
  rw [List.lookup_cons, e2]
  rfl
theorem no_f {x : Str} (h1 : (x == "knots") = false) (h2 : (x == "inlets") = false) (h3 : (x == "outlets") = false) : (List.lookup x ([("knots", V.ref ka), ("inlets", V.ref ia), ("outlets", V.ref oa)] : List (Str × V))) = none := by
  rw [List.lookup_cons, h1]
  show List.lookup x ([("inlets", V.ref ia), ("outlets", V.ref oa)] : List (Str × V)) = _
  rw [List.lookup_cons, h2]
  show List.lookup x ([("outlets", V.ref oa)] : List (Str × V)) = _
  rw [List.lookup_cons, h3]
  rfl
section
variable {K : PySem.W.Frag} {σ : L2.St} {H : Hp} {ta : TE}
theorem ev_fld {a C dx : Addr} {fs : List (Str × V)} {f : Str} {v : V} (ha : Ev ta σ H (.ref a)) (h : H a = some (.ins C dx fs)) (c : Cls K C) (n : NoAttr K C f) (hl : fs.lookup f = some v) : Ev (tFld K ta f) σ H v := fun Q q =>
  ha _ fun H1 e1 => ⟨a, C, dx, fs, v, rfl, e1 _ _ h, c, n, hl, q H1 e1⟩
theorem inV_strs {z : Str} : ∀ (l : List Str), inV (.str z) (l.map V.str) = decide (z ∈ l)
  | [] => rfl
  | y :: r => by
    show (eqV (.str y) (.str z) || inV (.str z) (r.map V.str)) = _
    rw [inV_strs r]
    show ((y == z) || _) = _
    by_cases e : y = z
    · subst e
      simp
    · have e2 : ¬ z = y := fun q => e q.symm
      have e3 : (y == z) = false := by simpa using e
      rw [e3]
      simp [e2]
theorem flat_strs (l : List Str) : (l.map V.str).all flatV = true := by
  rw [List.all_map]; exact List.all_eq_true.mpr fun _ _ => rfl
theorem ev_inT {tb : TE} {p : Addr} {z : Str} {os : List Str} (ha : Ev ta σ H (.str z)) (hb : ∀ H', Same H H' → Ev tb σ H' (.ref p)) (h : H p = some (.tup (os.map V.str))) : Ev (tOp (rIn K false) ta tb) σ H (.bl (decide (z ∈ os))) := fun Q q =>
  ha _ fun H1 e1 => hb H1 e1 _ fun H2 e2 => ⟨p, os.map V.str, rfl, .inr (SqT.of (e2 _ _ (e1 _ _ h))), rfl, flat_strs os, by
    show Q (.bl (if false = true then _ else inV _ _)) H2
    rw [if_neg (by decide), inV_strs]
    exact q H2 (e1.trans e2)⟩
end
section
variable {P : Program} {w : World} {K : PySem.W.Frag} {mg : Str → Option Value} {base : Heap} {ad : Ad}
/-! ### len(net) -/
def spLen (C : Addr) : Sp := fun vs H Q _ => ∃ (x : Addr) (ks is : List (Str × PyData)) (os : List Str), vs = [.ref x] ∧ NetAt H C x ks is os ∧ ∀ H', Same H H' → Q (.int (ks.length : Nat)) H'
theorem scLen : FnScope ["self"] ["self"] (defScope sLen) := ⟨rfl, rfl, rfl, by decide +kernel, rfl, by decide +kernel, by decide +kernel⟩
theorem ok_len (T : Tc K mg ad) : FnOk P w K mg base CX0 2 ad.len ad.dLen ["self"] (spLen ad.cNet) := by
  refine T.tx.fLen.ok scLen (fun vs H Q E h => ?_) (fun cdv A outer s H vs Q E hr h => ?_)
  · obtain ⟨x, ks, is, os, rfl, _⟩ := h
    rfl
  · obtain ⟨x, ks, is, os, rfl, n, k⟩ := h
    obtain ⟨dx, ka, ia, oa, kv, iv, h1, h2, h3, h4, h5, h6⟩ := n.ex
    refine ⟨_, pss_one (ps_ret (pe_callB call_lenD (by rfl) T.tx.len PySem.boot_len (pa_cons (pe_fld (pv 0) rfl) pa_nil))), ?_⟩
    refine s_ret (ev_lenD (ev_fld (K := K) (ev_tv rfl) h1 T.tx.cl T.tx.nKnots kn_f) h2) fun H' e => ?_
    rw [h3.length]
    exact k H' e
/-! ### name in net -/
def spHas (C : Addr) : Sp := fun vs H Q _ => ∃ (x : Addr) (z : Str) (ks is : List (Str × PyData)) (os : List Str), vs = [.ref x, .str z] ∧ NetAt H C x ks is os ∧ ∀ H', Same H H' → Q (.bl ((ks.lookup z).isSome || decide (z ∈ os))) H'
theorem scHas : FnScope ["self", "name"] ["self", "name"] (defScope sHas) := ⟨rfl, rfl, rfl, by decide +kernel, rfl, by decide +kernel, by decide +kernel⟩
theorem Dk.isSome {H : Hp} {kv : List (Key × V)} {ds : List (Str × PyData)} {z : Str} (h : Dk H kv ds) : (valV kv (.inr z)).isSome = (ds.lookup z).isSome := by
  cases q : ds.lookup z with
  | none =>
    rw [h.none q]
    rfl
  | some d =>
    obtain ⟨v, hv, _⟩ := h.get q
    rw [hv]
    rfl
theorem ok_has (T : Tc K mg ad) : FnOk P w K mg base CX0 2 ad.has ad.dHas ["self", "name"] (spHas ad.cNet) := by
  refine T.tx.fHas.ok scHas (fun vs H Q E h => ?_) (fun cdv A outer s H vs Q E hr h => ?_)
  · obtain ⟨x, z, ks, is, os, rfl, _⟩ := h
    rfl
  · obtain ⟨x, z, ks, is, os, rfl, n, k⟩ := h
    obtain ⟨dx, ka, ia, oa, kv, iv, h1, h2, h3, h4, h5, h6⟩ := n.ex
    refine ⟨_, pss_one (ps_ret (pe_or (pe_cmp (pc_din (hu_of hr) (pv 1) (pe_fld (pv 0) rfl)) rfl) (pe_one (pe_cmpR op_in_seq (pv 1) (pe_fld (pv 0) rfl) (by rfl))))), ?_⟩
    refine s_ret (Ev.orV (ev_inD (k := .inr z) (ev_tv rfl) (fun H1 e1 => ev_fld (K := K) (ev_tv rfl) (e1 _ _ h1) T.tx.cl T.tx.nKnots kn_f) h2) fun _ H1 e1 => ev_inT (K := K) (ev_tv rfl) (fun H2 e2 => ev_fld (K := K) (ev_tv rfl) (e2 _ _ (e1 _ _ h1)) T.tx.cl T.tx.nOutlets out_f) (e1 _ _ h6)) fun H' e => ?_
    rw [h3.isSome]
    exact k H' e
/-! ### net == other -/
def dOs (os : List Str) : PyData := .tuple (os.map PyData.str)
def eqNet (k1 i1 : List (Str × PyData)) (o1 : List Str) (k2 i2 : List (Str × PyData)) (o2 : List Str) : Bool := true && (eqDK k1 k2 && (eqDK i1 i2 && PyData.eqv (dOs o1) (dOs o2)))
structure Shp (ks is : List (Str × PyData)) (os : List Str) : Prop where
  ks : ∀ p ∈ ks, SeqAt.shaped p.2 = true
  is : ∀ p ∈ is, SeqAt.shaped p.2 = true
  os : SeqAt.shaped (dOs os) = true
def spEq (C : Addr) : Sp := fun vs H Q _ => (∃ (x y : Addr) (k1 i1 k2 i2 : List (Str × PyData)) (o1 o2 : List Str), vs = [.ref x, .ref y] ∧ NetAt H C x k1 i1 o1 ∧ NetAt H C y k2 i2 o2 ∧ Shp k1 i1 o1 ∧ Shp k2 i2 o2 ∧ ∀ H', Same H H' → Q (.bl (eqNet k1 i1 o1 k2 i2 o2)) H') ∨
  ∃ (x : Addr) (y : V), vs = [.ref x, y] ∧ ((∃ i, y = .int i) ∨ ∃ a kvs, y = .ref a ∧ H a = some (.dK kvs)) ∧ ∀ H', Same H H' → Q (.bl false) H'
theorem scEq : FnScope ["self", "other"] ["self", "other"] (defScope sEq) := ⟨rfl, rfl, rfl, by decide +kernel, rfl, by decide +kernel, by decide +kernel⟩
theorem ev_eqDK {σ : L2.St} {H : Hp} {ta tb : TE} {a b : Addr} {ks ls : List (Key × V)} {da db : List (Str × PyData)} (ha : Ev ta σ H (.ref a)) (hb : ∀ H', Same H H' → Ev tb σ H' (.ref b)) (h1 : H a = some (.dK ks)) (h2 : H b = some (.dK ls)) (d1 : Dk H ks da) (d2 : Dk H ls db) (s1 : ∀ p ∈ da, SeqAt.shaped p.2 = true) (s2 : ∀ p ∈ db, SeqAt.shaped p.2 = true) :
    Ev (tOp rEqDK ta tb) σ H (.bl (eqDK da db)) := fun Q q => ha _ fun H1 e1 => hb H1 e1 _ fun H2 e2 => ⟨a, b, ks, ls, da, db, rfl, rfl, e2 _ _ (e1 _ _ h1), e2 _ _ (e1 _ _ h2), d1.go (e1.trans e2), d2.go (e1.trans e2), s1, s2, q H2 (e1.trans e2)⟩
theorem ev_eqD {K : PySem.W.Frag} {σ : L2.St} {H : Hp} {ta tb : TE} {x y : V} {d e : PyData} (ha : Ev ta σ H x) (hb : ∀ H', Same H H' → Ev tb σ H' y) (h1 : Dt H x d) (h2 : Dt H y e) (s1 : SeqAt.shaped d = true) (s2 : SeqAt.shaped e = true) :
    Ev (tOp (rEqD K) ta tb) σ H (.bl (PyData.eqv d e)) := fun Q q => ha _ fun H1 e1 => hb H1 e1 _ fun H2 e2 => ⟨d, e, Dt.dp _ _ (h1.go (e1.trans e2)), Dt.dp _ _ (h2.go (e1.trans e2)), s1, s2, q H2 (e1.trans e2)⟩
theorem Same.of_isi {K : PySem.W.Frag} {σ : L2.St} {H : Hp} {ta : TE} {x : V} {C : Addr} {t : Value} {b : Bool} (ha : Ev ta σ H x) (hty : ∀ H', Same H H' → TyX K H' x t) (hk : PySem.W.kitOne K t (.ref C) = some b) : Ev (tCB (rIsi K) (tCons ta (tCons (tC (.ref C)) tNil))) σ H (.bl b) :=
  fun Q q => ha _ fun H' e => ⟨x, .ref C, t, .ref C, b, rfl, .own C, hty H' e, hk, q H' e⟩
theorem in1u {k : Nat} {A : Around} (hr : Room k A) : A.in1.units + 64 < cLine := by
  have := hr.un
  show A.units + 1 + 64 < cLine
  omega
theorem ok_eq (T : Tc K mg ad) : FnOk P w K mg base CX0 3 ad.eq ad.dEq ["self", "other"] (spEq ad.cNet) := by
  refine T.tx.fEq.ok scEq (fun vs H Q E h => ?_) (fun cdv A outer s H vs Q E hr h => ?_)
  · rcases h with ⟨x, y, k1, i1, k2, i2, o1, o2, rfl, _⟩ | ⟨x, y, rfl, _⟩
    · rfl
    · rfl
  · refine ⟨_, pss_one (ps_ret (pe_and (pe_isi rfl T.tx.isinstance (pv 1) (pe_glob (v := .ref ad.cNet) (by rfl) T.tx.gNet rfl)) (pe_and (pe_cmpR (op_eqDK (in1u hr)) (pe_fld (pv 0) rfl) (pe_fld (pv 1) rfl) (nomark _)) (pe_and (pe_cmpR (op_eqDK (in1u hr)) (pe_fld (pv 0) rfl) (pe_fld (pv 1) rfl) (nomark _))
      (pe_one (pe_cmpR (op_eqD hr.units) (pe_fld (pv 0) rfl) (pe_fld (pv 1) rfl) (nomark _))))))), ?_⟩
    rcases h with ⟨x, y, k1, i1, k2, i2, o1, o2, rfl, n1, n2, p1, p2, k⟩ | ⟨x, y, rfl, hy, k⟩
    · obtain ⟨dx, ka, ia, oa, kv, iv, h1, h2, h3, h4, h5, h6⟩ := n1.ex
      obtain ⟨dy, kb, ib, ob, kw, iw, g1, g2, g3, g4, g5, g6⟩ := n2.ex
      refine s_ret (Ev.andV (a := true) (Same.of_isi (ev_tv rfl) (fun H' e => .base (.ins (e _ _ g1) T.tx.cl T.iC T.iS T.iT T.iM)) T.isO) fun _ H1 e1 => Ev.andV (ev_eqDK (ev_fld (K := K) (ev_tv rfl) (e1 _ _ h1) T.tx.cl T.tx.nKnots kn_f) (fun H2 e2 => ev_fld (K := K) (ev_tv rfl) (e2 _ _ (e1 _ _ g1)) T.tx.cl T.tx.nKnots kn_f) (e1 _ _ h2) (e1 _ _ g2) (h3.go e1) (g3.go e1) p1.ks p2.ks)
        fun _ H2 e2 => Ev.andV (ev_eqDK (ev_fld (K := K) (ev_tv rfl) (e2 _ _ (e1 _ _ h1)) T.tx.cl T.tx.nInlets in_f) (fun H3 e3 => ev_fld (K := K) (ev_tv rfl) (e3 _ _ (e2 _ _ (e1 _ _ g1))) T.tx.cl T.tx.nInlets in_f) (e2 _ _ (e1 _ _ h4)) (e2 _ _ (e1 _ _ g4)) (h5.go (e1.trans e2)) (g5.go (e1.trans e2)) p1.is p2.is)
        fun _ H3 e3 => ev_eqD (K := K) (d := dOs o1) (e := dOs o2) (ev_fld (K := K) (ev_tv rfl) (e3 _ _ (e2 _ _ (e1 _ _ h1))) T.tx.cl T.tx.nOutlets out_f) (fun H4 e4 => ev_fld (K := K) (ev_tv rfl) (e4 _ _ (e3 _ _ (e2 _ _ (e1 _ _ g1)))) T.tx.cl T.tx.nOutlets out_f)
          (.tup (e3 _ _ (e2 _ _ (e1 _ _ h6))) (Dts.strs o1)) (.tup (e3 _ _ (e2 _ _ (e1 _ _ g6))) (Dts.strs o2)) p1.os p2.os) fun H' e => k H' e
    · have isno : ∀ H1, Same H H1 → Ev (tCB (rIsi K) (tCons (tVar 1) (tCons (tC (.ref ad.cNet)) tNil))) [some (.ref x), some y] H1 (.bl false) := fun H1 e1 => by
        rcases hy with ⟨i, rfl⟩ | ⟨a, kvs, rfl, ha⟩
        · exact Same.of_isi (ev_tv rfl) (fun H' e => .base (.int i)) T.isI
        · exact Same.of_isi (ev_tv rfl) (fun H' e => .base (.dK (e _ _ (e1 _ _ ha)))) T.isD
      refine s_ret (Ev.andV (a := false) (b := false) (isno H (Same.refl H)) fun z => nomatch z) fun H' e => k H' e
/-! ### net.start() -/
def zeros (zs : List Str) : List (Key × V) := zs.map fun z => (.inr z, .int 0)
end
end Bc

namespace Bc
open PySem L2 PyProof.Rows StX
section
variable {P : Program} {w : World} {K : PySem.W.Frag} {mg : Str → Option Value} {base : Heap} {ad : Ad}
theorem el_if {t : TT} {ta tb : TE} {σ : L2.St} {H : Hp} {b : Bool} {xs : List V} (h : EvB t σ H b) (h1 : b = true → ∀ H', Same H H' → EvL ta σ H' xs) (h2 : b = false → ∀ H', Same H H' → EvL tb σ H' xs) : EvL (tIf t ta tb) σ H xs := fun Q q => h _ fun H1 e1 => by
  cases b with
  | true => exact iteT (h1 rfl H1 e1 _ fun p H2 hp e2 hx => q p H2 (e1.free hp) (e1.trans e2) hx)
  | false => exact iteF (h2 rfl H1 e1 _ fun p H2 hp e2 hx => q p H2 (e1.free hp) (e1.trans e2) hx)
theorem ev_int1 {ta : TE} {σ : L2.St} {H : Hp} {i : Int} (ha : Ev ta σ H (.int i)) : Ev (tCB (fun xs H Q => (∃ i : Int, xs = [V.int i] ∧ Q (.int i) H) ∨ ∃ k : Bool, xs = [V.bl k] ∧ Q (.int (if k then 1 else 0)) H) (tCons ta tNil)) σ H (.int i) := fun Q q => ha _ fun H1 e1 => .inl ⟨i, rfl, q H1 e1⟩
theorem ev_ixL {K : PySem.W.Frag} {ta tb : TE} {σ : L2.St} {H : Hp} {p : Addr} {xs : List V} {i : Nat} {v : V} (ha : Ev ta σ H (.ref p)) (hb : ∀ H', Same H H' → Ev tb σ H' (.int (i : Nat))) (h : H p = some (.lst xs)) (hv : xs[i]? = some v) : Ev (tOp (rIxL K) ta tb) σ H v := fun Q q =>
  ha _ fun H1 e1 => hb H1 e1 _ fun H2 e2 => ⟨p, xs, i, v, rfl, rfl, SqL.of (e2 _ _ (e1 _ _ h)), atI_nat hv, q H2 (e1.trans e2)⟩
theorem q_par {i j : Nat} {ta : TA} {u : TS} {D : Ends} {σ : L2.St} {H : Hp} {v w : V} (h : EvA ta σ H [v, w]) (k : ∀ H', Same H H' → u D ((σ.set i (some v)).set j (some w)) H') : tSeq (tPar i j ta) u D σ H := h _ fun H1 e1 => ⟨v, w, rfl, k H1 e1⟩
theorem s_forR1 {ta : TA} {tb : TS} {D : Ends} {σ : L2.St} {H : Hp} {j : Nat} {n : Nat} (h : EvA ta σ H [.int (n : Nat)]) (hn : n ≤ 1000000) (Pv : Nat → L2.St → Hp → Prop) (h0 : ∀ H', Same H H' → Pv 0 σ H')
    (hs : ∀ i σ' H', i < n → Pv i σ' H' → tb { D with nx := Pv (i + 1), ct := Pv (i + 1), bk := D.nx } (σ'.set j (some (.int (i : Nat)))) H') (hd : ∀ σ' H', Pv n σ' H' → D.nx σ' H') : tFor (iRng1 ta) (gName j) tb D σ H :=
  h _ fun H1 e1 => ⟨n, rfl, by omega, by omega, by
    have e : ((n : Nat) : Int).toNat = n := by omega
    rw [e]
    refine for_it walk_range Pv (h0 H1 e1) (fun _ _ _ _ _ => True.intro) (fun i x σ' H2 H3 hi q y => ?_) hd
    obtain ⟨rfl, rfl⟩ := y
    have z := hs i σ' _ hi q
    show tb _ (σ'.set j (some (.int (0 + (i : Nat))))) _
    rw [Int.zero_add]
    exact z⟩
theorem q_forR1 {ta : TA} {tb u : TS} {D : Ends} {σ : L2.St} {H : Hp} {j : Nat} {n : Nat} (h : EvA ta σ H [.int (n : Nat)]) (hn : n ≤ 1000000) (Pv : Nat → L2.St → Hp → Prop) (h0 : ∀ H', Same H H' → Pv 0 σ H')
    (hs : ∀ i σ' H', i < n → Pv i σ' H' → tb { D with nx := Pv (i + 1), ct := Pv (i + 1), bk := u D } (σ'.set j (some (.int (i : Nat)))) H') (hd : ∀ σ' H', Pv n σ' H' → u D σ' H') : tSeq (tFor (iRng1 ta) (gName j) tb) u D σ H := s_forR1 (D := { D with nx := u D }) h hn Pv h0 hs hd
theorem s_asg {te : TE} {D : Ends} {σ : L2.St} {H : Hp} {i : Nat} {v : V} (h : Ev te σ H v) (k : ∀ H', Same H H' → D.nx (σ.set i (some v)) H') : tAsg te (gName i) D σ H := h _ fun H' e => k H' e
theorem Same.seqL {K : PySem.W.Frag} {H H' : Hp} {a : Addr} {xs : List V} (e : Same H H') (h : SqL K H a xs) : SqL K H' a xs := L2.Same.seq e h
theorem dpAll_ints {K : PySem.W.Frag} {H : Hp} : ∀ ns : List Int, DpAll K H (ns.map V.int) (ns.map PyData.int)
  | [] => .nil
  | i :: r => .cons (.int i) (dpAll_ints r)
/-! ### _law_draw: some number below many -/
def spDraw (K : PySem.W.Frag) : Sp := fun vs H Q _ => ∃ (s : Addr) (ns : List Int) (at_ many : Nat), vs = [.ref s, .int at_, .int many] ∧ SqL K H s (ns.map V.int) ∧ ns.length ≤ 63 ∧ at_ ≤ 100000 ∧ 1 ≤ many ∧ many ≤ 100000 ∧
  ∀ (r : Nat) H', Same H H' → r < many → Q (.int r) H'
theorem scDraw : FnScope ["script", "at", "many", "row", "cell", "turn", "step", "mixed"] ["script", "at", "many"] (defScope sDraw) := ⟨rfl, rfl, rfl, by decide +kernel, rfl, by decide +kernel, by decide +kernel⟩
theorem ok_draw (T : Tx K mg ad) : FnOk P w K mg base CX0 2 ad.draw ad.dDraw ["script", "at", "many"] (spDraw K) := by
  refine T.fDraw.ok scDraw (fun vs H Q E h => ?_) (fun cdv A outer s H vs Q E hr h => ?_)
  · obtain ⟨sa, ns, at_, many, rfl, _⟩ := h
    rfl
  · obtain ⟨sa, ns, at_, many, rfl, hS, hl, hat, hm1, hm2, k⟩ := h
    refine ⟨_, pss_cons (ps_set (i := 3) scDraw.nd rfl (.inl rfl) (pe_ifExp (pt_cmpR (op_neD hr.units) (pv 0) (pe_lst pa_nil) (nomark _)) (pe_slice sl_list (pv 0) po_none (po_some pe_int)) (pe_lst (pa_cons pe_int pa_nil))))
      (pss_cons (ps_par (i := 4) (j := 5) rfl scDraw.nd rfl rfl (by decide) rfl rfl (pa_cons (pe_ix ix_list (pv 3) (pe_op op_mod (pv 1) (pe_callB call_len_seq (by rfl) T.len PySem.boot_len (pa_cons (pv 3) pa_nil))) (fun _ _ => rfl)) (pa_cons (pe_op op_fdiv (pv 1) (pe_callB call_len_seq (by rfl) T.len PySem.boot_len (pa_cons (pv 3) pa_nil))) pa_nil)) rfl)
      (pss_cons (ps_if (pt_cmpR op_ge (pv 4) (pe_op op_pow pe_int pe_int) (nomark _))
        (pss_cons (ps_set (i := 4) scDraw.nd rfl (.inl rfl) (pe_op op_mod (pe_callTy call_int1 (by rfl) T.int b_int (pa_cons (pv 4) pa_nil)) (pe_op op_pow pe_int pe_int)))
        (pss_cons (ps_for PassesOwn.never rfl (pi_range1 (by rfl) T.range (pa_cons (pe_op op_mod (pv 5) pe_int) pa_nil)) (pg_name (i := 6) scDraw.nd rfl (.inl rfl)) (pss_one (ps_set (i := 4) scDraw.nd rfl (.inl rfl) (pe_op op_fdiv (pv 4) pe_int))))
        (pss_one (ps_ret (pe_op op_mod (pe_op op_mod (pe_callTy call_int1 (by rfl) T.int b_int (pa_cons (pv 4) pa_nil)) pe_int) (pv 2)))))) pss_nil)
      (pss_cons (ps_set (i := 7) scDraw.nd rfl (.inl rfl) (pe_op op_add (pe_op op_mul (pe_op op_add (pe_op op_add (pe_op op_mod (pe_callTy call_int1 (by rfl) T.int b_int (pa_cons (pe_op op_add (pv 4) (pe_op op_mul pe_int (pv 5))) pa_nil)) pe_int) (pe_op op_mul pe_int (pv 1))) pe_int) pe_int)
          (pe_op op_mod (pe_callTy call_int1 (by rfl) T.int b_int (pa_cons (pe_op op_fdiv (pv 4) pe_int) pa_nil)) pe_int)))
      (pss_one (ps_ret (pe_op op_mod (pe_callTy call_int1 (by rfl) T.int b_int (pa_cons (pe_op op_mod (pe_op op_mul (pe_op op_mod (pv 7) pe_int) pe_int) pe_int) pa_nil)) (pv 2))))))), ?_⟩
    have hrow : ∃ xs : List Int, xs ≠ [] ∧ xs.length ≤ 63 ∧ ∀ K' : PySem.W.Frag, K' = K → EvL (tIf (tTest (tOp (rNeD K') (tVar 0) (tLst tNil))) (tSl (rSlL K') (tVar 0) tNoPart (tPart (tC (.int 60)))) (tLst (tCons (tC (.int 7)) tNil))) [some (.ref sa), some (.int at_), some (.int many), none, none, none, none, none] H (xs.map V.int) := by
      have test : ∀ K' : PySem.W.Frag, K' = K → EvB (tTest (tOp (rNeD K') (tVar 0) (tLst tNil))) [some (.ref sa), some (.int at_), some (.int many), none, none, none, none, none] H (!PyData.eqv (.list (ns.map PyData.int)) (.list [])) := fun K' hK Q q => by
        subst hK
        refine ⟨_, rfl, Nat.zero_le _, fun p hp => ⟨.list (ns.map PyData.int), .list [], .lst (Same.seqL (same_upd hp) hS) (dpAll_ints ns), .lst (SqL.of upd_same) .nil, ?_, by decide +kernel, _, rfl, q _ (same_upd hp)⟩⟩
        exact PySem.W.ke_shaped_ints ns
      cases ns with
      | nil =>
        refine ⟨[7], by decide, by decide, fun K' hK => el_if (test K' hK) (fun z => nomatch z) fun _ H1 e1 Q q => ⟨by decide, fun p hp => q p _ hp (same_upd hp) upd_same⟩⟩
      | cons n r =>
        refine ⟨(n :: r).take 60, by simp, by rw [List.length_take]; omega, fun K' hK => el_if (test K' hK) (fun _ H1 e1 Q q => ?_) (fun z => nomatch z)⟩
        subst hK
        refine ⟨_, rfl, ⟨_, rfl, sa, (n :: r).map V.int, rfl, Same.seqL e1 hS, fun p hp => ?_⟩⟩
        have e : cutV ((n :: r).map V.int) none (some 60) = ((n :: r).take 60).map V.int := by
          show (((n :: r).map V.int).drop 0).take (HT.sIx _ _ (some ((60 : Nat) : Int)) - 0) = _
          rw [HT.sIx_nat, List.drop_zero, Nat.sub_zero, ← List.map_take]
          congr 1
          rw [List.length_map]
          rcases Nat.le_total 60 (n :: r).length with h | h
          · rw [Nat.min_eq_left h]
          · rw [Nat.min_eq_right h, List.take_of_length_le (Nat.le_refl _), List.take_of_length_le h]
        rw [e]
        exact q p _ hp (same_upd hp) upd_same
    obtain ⟨xs, hne, hxl, hev⟩ := hrow
    have pos : 0 < xs.length := List.length_pos_iff.mpr hne
    refine q_asgL (hev _ rfl) fun p H1 hp e1 hx => ?_
    have hlenE : ∀ H2, Same H1 H2 → Ev (tCB (rLen K) (tCons (tVar 3) tNil)) [some (.ref sa), some (.int at_), some (.int many), some (.ref p), none, none, none, none] H2 (.int ((xs.map V.int).length : Int)) := fun H2 e2 => ev_lenL (ev_tv rfl) (e2 _ _ hx)
    have hmod : at_ % xs.length < xs.length := Nat.mod_lt _ pos
    have hxs : xs[at_ % xs.length]? = some xs[at_ % xs.length] := List.getElem?_eq_getElem hmod
    refine q_par (v := .int xs[at_ % xs.length]) (w := .int ((at_ / xs.length : Nat) : Int)) (ea_cons (ev_ixL (K := K) (i := at_ % xs.length) (ev_tv rfl) (fun H2 e2 => ev_is (ev_I (ev_tv rfl) (fun H3 e3 => hlenE H3 (e2.trans e3)) (by rw [List.length_map]; omega)) (by rw [List.length_map]; exact congrArg V.int (by omega))) hx (by rw [List.getElem?_map, hxs]; rfl)) fun H2 e2 =>
      ea_cons (ev_is (ev_I (ev_tv rfl) (fun H3 e3 => hlenE H3 (e2.trans e3)) (by rw [List.length_map]; exact ⟨by omega, by omega⟩)) (by rw [List.length_map]; exact congrArg V.int (by omega))) fun _ _ => ea_nil) fun H2 e2 => ?_
    generalize xs[at_ % xs.length] = cell
    have hturn : at_ / xs.length ≤ 100000 := Nat.le_trans (Nat.div_le_self _ _) hat
    generalize at_ / xs.length = turn at hturn
    have t18 : ∀ H3, EvB (tTest (tOp (rI0 fun i j => .bl (decide (j ≤ i))) (tVar 4) (tOp (rI CPow fun i j => .int (i ^ j.toNat)) (tC (.int 10)) (tC (.int 18))))) [some (.ref sa), some (.int at_), some (.int many), some (.ref p), some (.int cell), some (.int (turn : Nat)), none, none] H3 (decide ((10 : Int) ^ (18 : Int).toNat ≤ cell)) := fun H3 => EvB.of' (ev_I0 (ev_tv rfl) fun _ _ => ev_I ev_tc (fun _ _ => ev_tc) ⟨by decide, by decide, by decide⟩)
    have fin : ∀ z : Int, ∀ H4, Same H H4 → Q (.int (z % (many : Nat))) H4 := fun z H4 e4 => by
      have h0 : 0 ≤ z % (many : Nat) := Int.emod_nonneg _ (by omega)
      have h1 : z % (many : Nat) < (many : Nat) := Int.emod_lt_of_pos _ (by omega)
      have e : z % (many : Nat) = ((z % (many : Nat)).toNat : Int) := by omega
      rw [e]
      exact k _ H4 e4 (by omega)
    by_cases hc : (10 : Int) ^ (18 : Int).toNat ≤ cell
    · refine if_yes (evb_is (t18 H2) (decide_eq_true hc)) fun H3 e3 => ?_
      refine q_asg (ev_I (ev_int1 (ev_tv rfl)) (fun _ _ => ev_I ev_tc (fun _ _ => ev_tc) ⟨by decide, by decide, by decide⟩) (by decide)) fun H4 e4 => ?_
      refine q_forR1 (n := turn % 40) (ea_cons (ev_is (ev_I (ev_tv rfl) (fun _ _ => ev_tc) (by decide)) (congrArg V.int (by omega))) fun _ _ => ea_nil) (by omega) (fun i σ H' => ∃ c x6, σ = [some (.ref sa), some (.int at_), some (.int many), some (.ref p), some (.int c), some (.int (turn : Nat)), x6, none] ∧ Same H4 H')
        (fun H' e => ⟨_, none, rfl, e⟩) (fun i σ' H' hi q => ?_) (fun σ' H' q => ?_)
      · obtain ⟨c, x6, rfl, e5⟩ := q
        exact s_asg (ev_I (ev_tv rfl) (fun _ _ => ev_tc) ⟨by decide, by decide⟩) fun H6 e6 => ⟨_, _, rfl, e5.trans e6⟩
      · obtain ⟨c, x6, rfl, e5⟩ := q
        refine s_ret (ev_I (ev_I (ev_int1 (ev_tv rfl)) (fun _ _ => ev_tc) (by decide)) (fun _ _ => ev_tv rfl) (by omega)) fun H6 e6 => fin _ H6 (e1.trans (e2.trans (e3.trans (e4.trans (e5.trans e6)))))
    · refine q_no (evb_is (t18 H2) (decide_eq_false hc)) fun H3 e3 => ?_
      refine q_asg (ev_I0 (ev_I (ev_I0 (ev_I0 (ev_I (ev_int1 (ev_I0 (ev_tv rfl) fun _ _ => ev_I ev_tc (fun _ _ => ev_tv rfl) (.inl ⟨by decide, by decide⟩))) (fun _ _ => ev_tc) (by decide)) fun _ _ => ev_I ev_tc (fun _ _ => ev_tv rfl) (.inl ⟨by decide, by decide⟩)) fun _ _ => ev_tc) (fun _ _ => ev_tc) (.inr ⟨by decide, by decide⟩))
        fun _ _ => ev_I (ev_int1 (ev_I (ev_tv rfl) (fun _ _ => ev_tc) ⟨by decide, by decide⟩)) (fun _ _ => ev_tc) (by decide)) fun H4 e4 => ?_
      refine s_ret (ev_I (ev_int1 (ev_I (ev_I (ev_I (ev_tv rfl) (fun _ _ => ev_tc) (by decide)) (fun _ _ => ev_tc) (.inr ⟨by decide, by decide⟩)) (fun _ _ => ev_tc) (by decide))) (fun _ _ => ev_tv rfl) (by omega)) fun H6 e6 => fin _ H6 (e1.trans (e2.trans (e3.trans (e4.trans e6))))
end
end Bc

/-! enumerate(text), list(text), list(reversed(list)) -/
namespace Bc
open PySem PySem.Spec L2 PyProof.Rows
/-- the signs of a text, each in a new pair with itz place -/
def ItE (x : Str) : It := ⟨fun i _ => i < x.cps.size, fun i H v H' => ∃ T c, v = .ref T ∧ H T = none ∧ x.cps[i]? = some c ∧ H' = upd H T (.tup [.int (i : Nat), .str ⟨#[c]⟩]), fun i _ => i = x.cps.size⟩
theorem turn_enumS {P : Program} {w : World} {K : PySem.W.Frag} {elts : List Expr} {kk : Nat} {tpos : Pos} (x : Str) (t : Tok) (ty : String) (hty : ty = "str_ascii_iterator" ∨ ty = "str_iterator") (e it : Addr) :
    Turn P w K (.Tuple elts kk tpos) (ItE x) [e, it] e (fun i h => (∃ oldz, IsEnum h e it ((i : Nat) : Int) oldz) ∧ h.IsStrIter it ty x t i ∧ e ≠ it) where
  mem := by simp
  obj := fun i h st b hb => by
    obtain ⟨⟨oldz, he⟩, ⟨o, ho, hc, hd⟩, _⟩ := st
    have e' : b = e ∨ b = it := (by simpa using hb); rcases e' with z | z
    · rw [z]; exact ⟨_, he, fun v q => by cases q⟩
    · rw [z]; exact ⟨o, ho, fun v q => by cases hd.symm.trans q⟩
  keep := fun i h h' st k => let ⟨⟨oldz, he⟩, ⟨o, ho, r⟩, hne⟩ := st; ⟨⟨oldz, k e (by simp) _ he⟩, ⟨o, k it (by simp) o ho, r⟩, hne⟩
  item := by
    intro X hP hw hK hc i pz s σ H E I hf st hg
    subst hP hw hK
    obtain ⟨⟨oldz, he⟩, hitz, hne⟩ := st
    have hltz : i < x.cps.size := hg
    have helz : e < s.heap.objs.size := Heap.lt_size he
    have hilz : it < s.heap.objs.size := by obtain ⟨_, q, _⟩ := hitz; exact Heap.lt_size q
    have D : Draws X.prog X.w X.A.in1 it [it] x.cps.size (fun i v => ∃ c u, x.cps[i]? = some c ∧ v = .str ⟨#[c]⟩ u) (fun i h => h.IsStrIter it ty x t i) := by
      have hh : X.A.in1.handled = none := I.ok.hd hc
      rcases hty with rfl | rfl
      · exact Draws.strAscii hh it x t
      · exact Draws.strWide hh it x t
    refine wpAny_pyNext_enum_itemD D he hitz hltz hne (by simpa using hne) fun v h' tk hv ho hit' hTz hsz hk => ?_
    obtain ⟨c, u, hcx, rfl⟩ := hv
    refine ⟨_, rfl, wpAny_letOwnedTupleGo_enum (s := { s with heap := h', toks := tk + 1 }) ho fun h'' he' sbz => ?_⟩
    have hT2 : h''.get? s.heap.objs.size = some { cls := .type "tuple", data := .seq #[.int i tk, .str ⟨#[c]⟩ u] } := (sbz.2 _ (Nat.ne_of_gt helz)).trans hTz
    have new : ObjOk X.prog X.w (upd H s.heap.objs.size (.tup [.int (i : Nat), .str ⟨#[c]⟩])) h'' s.heap.objs.size (.tup [.int (i : Nat), .str ⟨#[c]⟩]) :=
      ⟨by show 2 ≤ sizeLine; decide, [.int i tk, .str ⟨#[c]⟩ u], .cons ⟨_, rfl⟩ (.cons ⟨_, rfl⟩ .nil), ⟨_, hT2, rfl, _, rfl⟩⟩
    have J1 : Inv X pz σ (upd H s.heap.objs.size (.tup [.int (i : Nat), .str ⟨#[c]⟩])) { s with heap := h'', toks := tk + 1 } :=
      I.turnedNew (ch := [e, it]) (fun b ob hb q => (sbz.2 b (fun z => hb (by simp [z]))).trans (hk b ob (fun z => hb (by simp [z])) (fun z => hb (by simp [z])) q)) hf (Nat.le_refl _) new
    refine ⟨.ref s.heap.objs.size, _, J1, rfl, ⟨_, c, rfl, I.hok.fresh (Nat.le_refl _), hcx, rfl⟩, ⟨⟨.str ⟨#[c]⟩ u, ?_⟩, ?_, hne⟩, fun b hb => ?_⟩
    · have e1 : ((i + 1 : Nat) : Int) = (i : Int) + 1 := rfl
      rw [e1]; exact he'
    · obtain ⟨o, ho', r⟩ := hit'
      exact ⟨o, (sbz.2 it (Ne.symm hne)).trans ho', r⟩
    · have hb' : b < s.heap.objs.size := show b < _ by
        have e' : b = e ∨ b = it := (by simpa using hb); rcases e' with z | z
        · rw [z]; exact helz
        · rw [z]; exact hilz
      rw [upd_ne (Nat.ne_of_lt hb')]; exact (hf b hb).1
  done := by
    intro X hP hw hK hc i pz s σ H E I hf st hg
    subst hP hw hK
    obtain ⟨⟨oldz, he⟩, hitz, hne⟩ := st
    have hi : i = x.cps.size := hg
    subst hi
    have D : Draws X.prog X.w X.A.in1 it [it] x.cps.size (fun i v => ∃ c u, x.cps[i]? = some c ∧ v = .str ⟨#[c]⟩ u) (fun i h => h.IsStrIter it ty x t i) := by
      have hh : X.A.in1.handled = none := I.ok.hd hc
      rcases hty with rfl | rfl
      · exact Draws.strAscii hh it x t
      · exact Draws.strWide hh it x t
    obtain ⟨zf0, zf1, f2, zf3, zf4, zf5⟩ := hf it (by simp)
    exact wpAny_pyNext_enum_endD D he hitz fun h' eb => ⟨rfl, I.turned (t' := s.toks) (fun b o hb e => eb b o hb e) zf0 zf1 zf3 zf4 zf5⟩
  self := fun A i s Q E st h => wpAny_pyIter_enum st.1.choose_spec h
def iEnumS (ta : TA) : TI := fun σ H R => ta σ H fun vs H1 => ∃ x, vs = [.str x] ∧ R (ItE x) H1
theorem pi_enumS {X : Cx} {e : Expr} {ta : TA} {p pos tpos : Pos} {elts : List Expr} {kk : Nat} (hg : Gl X "enumerate") (hm : X.mg "enumerate" = none) (ha : PA X [e] ta) (hs : starEach [e] X.env = [(false, eval e X.env)] := by rfl) :
    PI X (.Tuple elts kk tpos) (.Call (.Name "enumerate" p) [e] [] pos) (iEnumS ta) := by
  refine ⟨fun pz s σ H R I h => ?_⟩
  refine Call_ (ld_blt I hg hm boot_enumerate (PyProof.Rows.callWith_type1 (thn (ha.run pos pz s σ H _ I h) fun uz s1 ⟨vs, H1, J1, r1, q1⟩ => ?_) hs rfl))
  obtain ⟨x, ex, q⟩ := q1
  subst ex
  obtain ⟨u, rfl, rz⟩ := vals1 r1
  obtain ⟨t, rfl⟩ := rz
  refine call_enumerate_str fun h' he hitz hsz hk => wpAny_pyIter_enum he ?_
  have J2 : Inv X pz σ H1 { s1 with heap := h' } := J1.kept (t' := s1.toks) hk
  have hty : strIterType x = "str_ascii_iterator" ∨ strIterType x = "str_iterator" := by
    unfold strIterType
    cases x.cps.all (· < 128) <;> simp
  refine ⟨s1.heap.objs.size + 1, [s1.heap.objs.size + 1, s1.heap.objs.size], _, _, H1, rfl, J2, turn_enumS x t _ hty (s1.heap.objs.size + 1) s1.heap.objs.size, ⟨⟨.none, he⟩, hitz, Nat.succ_ne_self _⟩, fun b hb => ?_, q⟩; have e' : b = s1.heap.objs.size + 1 ∨ b = s1.heap.objs.size := by simpa using hb
  have hle : s1.heap.objs.size ≤ b := show _ ≤ b by
    rcases e' with z | z
    · rw [z]; exact Nat.le_succ _
    · rw [z]; exact Nat.le_refl _
  exact J1.fpOk hle (J1.hok.fresh hle)
theorem walk_enumS {x : Str} : Walk (ItE x) x.cps.size (fun _ => True) (fun i H v H' => ∃ T c, v = .ref T ∧ H T = none ∧ x.cps[i]? = some c ∧ H' = upd H T (.tup [.int (i : Nat), .str ⟨#[c]⟩])) :=
  ⟨fun _ _ hi _ => hi, fun _ _ => rfl, fun _ _ _ _ _ _ y => y⟩
/-! ### list(text) -/
def sgn (x : Str) : List Str := x.cps.toList.map fun c => ⟨#[c]⟩
theorem vals_sgn {x : Str} : ∀ (cs : List Nat) (ys : List Value), ys.length = cs.length → (∀ (j : Nat) v, ys[j]? = some v → ∃ c u, cs[j]? = some c ∧ v = .str ⟨#[c]⟩ u) → Vals ((cs.map fun c => (⟨#[c]⟩ : Str)).map V.str) ys
  | [], [], _, _ => .nil
  | c :: cs, y :: ys, hl, h => by
    obtain ⟨c', u, h1, h2⟩ := h 0 y rfl
    cases h1
    subst h2
    exact .cons ⟨u, rfl⟩ (vals_sgn (x := x) cs ys (by simpa using hl) fun j v e => h (j + 1) v (by simpa using e))
  | [], _ :: _, hl, _ => absurd hl (by simp)
  | _ :: _, [], hl, _ => absurd hl (by simp)
def rListS : List V → Hp → VK → Prop := fun xs H Q => ∃ x : Str, xs = [V.str x] ∧ x.length ≤ sizeLine ∧ ∀ l, H l = none → Q (.ref l) (upd H l (.lst ((sgn x).map V.str)))
theorem call_listS {X : Cx} (hc : X.calm = true) : CallR X (.type "list") rListS := by
  intro pz s σ H xs uz Q I r h
  obtain ⟨x, rfl, hx, q⟩ := h
  obtain ⟨u, rfl, rz⟩ := vals1 r
  obtain ⟨t, rfl⟩ := rz
  refine call_list_str (I.ok.hd hc) x t (hn := hx) fun h' tk acc' c' hk hS' hacc => ?_
  have J1 : Inv X pz σ H { s with heap := h', toks := tk } := I.kept hk; have hf : H s.heap.objs.size = none := I.hok.fresh (Nat.le_refl _)
  have hv : Vals ((sgn x).map V.str) acc'.toList := vals_sgn (x := x) x.cps.toList acc'.toList (by rw [Array.length_toList, Array.length_toList]; exact hacc.1) fun j v e => by
    obtain ⟨c, u, h1, h2⟩ := hacc.2 j v (by rw [← Array.getElem?_toList]; exact e)
    exact ⟨c, u, by rw [Array.getElem?_toList]; exact h1, h2⟩
  refine ⟨.ref s.heap.objs.size, _, I.laid (t' := tk) hk (Nat.le_refl _) (show ObjOk X.prog X.w _ h' _ (.lst ((sgn x).map V.str)) from ⟨?_, acc'.toList, c', hv, ?_⟩), rfl, q _ hf⟩
  · rw [List.length_map]
    show (x.cps.toList.map _).length ≤ sizeLine
    rw [List.length_map, Array.length_toList]; exact hx
  · rw [Array.toArray_toList]
    exact hS'
end Bc

/-! list(reversed(list)) -/
namespace Bc
open PySem PySem.Spec
section
variable {s : Shared} {prog : Program} {w : World} {A : Around} {E : Value → Shared → Prop}
theorem extend_rev {R : Result → Shared → Prop} (hh : A.handled = none) {it l : Addr} {items : Array Value} (S : Addr) (res : Value) (c₀ : Nat) (hSz : s.heap.get? S = some { cls := .type "list", data := .seq #[] c₀ })
    (hitz : s.heap.IsRevIter it l ((items.size : Int) - 1)) (hl : s.heap.IsList l items) (hne : l ≠ it) (hn : items.size ≤ sizeLine) (hSi : S ≠ it) (hSl : S ≠ l)
    (hR : ∀ h' tk acc' c', (∀ b o, b ≠ S → b ≠ it → s.heap.get? b = some o → h'.get? b = some o) → h'.get? S = some { cls := .type "list", dict := none, data := .seq acc' c', slots := #[] } →
      ItemsOf (fun i v => items[items.size - 1 - i]? = some v) acc' items.size → R (.ok (.ret res)) { s with heap := h', toks := tk }) : wpAny (model prog w) A.in1 (Builtin.List.listExtendWith (.ref S) (.ref it) res) (fun fin s' => match fin with | .done f => R (.ok f) s' | .again c' => c'.quiet = true ∧ codeAny (model prog w) A c' R s') (fun e s' => R (.error e) s') s := by
  have W := (Walks.listRev (prog := prog) (w := w) (A := A.in1) hh it l hne items).toS; have hSf : S ∉ [it, l] := by simp only [List.mem_cons, List.not_mem_nil, or_false, not_or]; exact ⟨hSi, hSl⟩
  have hTz : s.TypeIs (.ref it) "list_reverseiterator" := hitz.typeIs
  have h1 : Builtin.List.listSameRef (.ref S) (.ref it) = false := by simp [Builtin.List.listSameRef, hSi]
  unfold Builtin.List.listExtendWith; refine wpAny_bind (wpAny_typeOf hTz ?_)
  rw [if_neg (by rw [h1]; decide)]; refine wpAny_bind (wpAny_pyIter_revIter hitz ?_)
  refine wpAny_bind (wpAny_holding ?_); unfold Builtin.List.listLengthHint
  refine wpAny_bind (wpAny_specialOf hTz RT.nolen_lri ?_)
  show wpAny _ A.in1 (specialOf (Value.ref it) (Str.ofString "__length_hint__") >>= _) _ _ _; refine wpAny_bind (wpAny_specialOf hTz RT.hint_lri ?_)
  generalize hid : ("list_reverseiterator.__length_hint__" : String) = id0; wp_delta
  rw [show splitId id0 = some ("list_reverseiterator", "__length_hint__") from by subst hid; decide +kernel]; subst hid
  refine wpAny_bind (wpAny_isInstance (b := true) hTz (by rw [isSubtype_type]; kernel_rfl) ?_)
  refine wpAny_pure ?_
  rw [if_neg (by decide)]
  have ez0 : ((items.size : Nat) : Int) - 1 - ((0 : Nat) : Int) = (items.size : Int) - 1 := by omega
  refine wpAny_pure ⟨plainId_quiet F.plain_extend_loop _, codeAny_extend_loopS W hn _ hSf _ items.size 0 _ _ _ rfl (Nat.zero_le _) ⟨Nat.zero_le _, by rw [ez0]; exact hitz, hl⟩ hSz (ItemsOf.nil _) fun s' acc' c' hm hS' hacc => ?_⟩
  rw [Moved.eq_with hm]
  refine hR s'.heap s'.toks acc' c' (fun b o hb hb2 e => hm.heap b o (fun hmm => ?_) e) hS' hacc
  rcases List.mem_cons.mp hmm with e' | hmm
  · exact hb e'
  · exact hb2 (List.mem_singleton.mp hmm)
theorem list_init_rev {R : Result → Shared → Prop} (hh : A.handled = none) {it l : Addr} {items : Array Value} (S : Addr) (hSz : s.heap.get? S = some { cls := .type "list", data := .seq #[] })
    (hitz : s.heap.IsRevIter it l ((items.size : Int) - 1)) (hl : s.heap.IsList l items) (hne : l ≠ it) (hn : items.size ≤ sizeLine) (hSi : S ≠ it) (hSl : S ≠ l)
    (hR : ∀ h' tk acc' c', (∀ b o, b ≠ S → b ≠ it → s.heap.get? b = some o → h'.get? b = some o) → h'.get? S = some { cls := .type "list", dict := none, data := .seq acc' c', slots := #[] } →
      ItemsOf (fun i v => items[items.size - 1 - i]? = some v) acc' items.size → R (.ok (.ret .none)) { s with heap := h', toks := tk }) : wpAny (model prog w) A.in1 (Builtin.«list.__init__» ⟨[.ref S, .ref it], []⟩) (fun fin s' => match fin with | .done f => R (.ok f) s' | .again c' => c'.quiet = true ∧ codeAny (model prog w) A c' R s') (fun e s' => R (.error e) s') s := by
  show wpAny _ _ (do let oldz ← Builtin.List.listItems (.ref S); Builtin.List.listUpdate (.ref S) (fun _ => #[]); letGo oldz.toList.reverse; Builtin.List.listExtendWith (.ref S) (.ref it) .none) _ _ s
  refine wpAny_bind ?_
  unfold Builtin.List.listItems
  refine wpAny_bind (wpAny_seqItems hSz rfl (wpAny_pure ?_))
  show wpAny _ _ (updateSeq S (fun _ => #[]) >>= fun _ => letGo (#[] : Array Value).toList.reverse >>= fun _ => Builtin.List.listExtendWith (.ref S) (.ref it) .none) _ _ s
  refine wpAny_bind (wpAny_updateSeq hSz rfl ?_)
  have hSy := Heap.get?_update_self (Obj.mapSeq (fun _ => (#[] : Array Value))) hSz rfl
  have othz : ∀ b o, b ≠ S → s.heap.get? b = some o → (s.heap.update S (Obj.mapSeq (fun _ => (#[] : Array Value)))).get? b = some o := fun b o hb e => (Heap.get?_update_other _ _ (Ne.symm hb)).trans e; refine wpAny_bind (wpAny_letGo ?_)
  have hl2 : (s.heap.update S (Obj.mapSeq (fun _ => (#[] : Array Value)))).IsList l items := by
    obtain ⟨o, ho, r⟩ := hl
    exact ⟨o, othz _ _ (Ne.symm hSl) ho, r⟩
  refine extend_rev hh S .none _ hSy (hitz.at fun o e => othz _ _ (Ne.symm hSi) e) hl2 hne hn hSi hSl fun h' tk acc' c' hk hS' hacc => ?_
  exact hR h' tk acc' c' (fun b o hb hb2 e => hk b o hb hb2 (othz b o hb e)) hS' hacc
theorem call_list_revI {Q : Value → Shared → Prop} (hh : A.handled = none) {it l : Addr} {items : Array Value} (hitz : s.heap.IsRevIter it l ((items.size : Int) - 1)) (hl : s.heap.IsList l items) (hne : l ≠ it) (hn : items.size ≤ sizeLine)
    (hQ : ∀ h' tk acc' c', (∀ b o, b ≠ it → s.heap.get? b = some o → h'.get? b = some o) →
      h'.get? s.heap.objs.size = some { cls := .type "list", dict := none, data := .seq acc' c', slots := #[] } → ItemsOf (fun i v => items[items.size - 1 - i]? = some v) acc' items.size → Q (.ref s.heap.objs.size) { s with heap := h', toks := tk }) : wpAny (model prog w) A (call (.type "list") [.ref it]) Q E s := by
  have h1 : s.heap.objs.size ≠ it := fun z => by
    obtain ⟨o, ho, _⟩ := hitz
    exact absurd (Heap.lt_size ho) (by rw [z]; exact Nat.lt_irrefl _)
  have h2 : s.heap.objs.size ≠ l := fun z => by
    obtain ⟨o, ho, _⟩ := hl
    exact absurd (Heap.lt_size ho) (by rw [z]; exact Nat.lt_irrefl _)
  refine callType_codes (Q₁ := fun obj s₁ => obj = .ref s.heap.objs.size ∧ s₁ = { s with heap := s.heap.push { cls := .type "list", data := .seq #[] } }) F.called_list (F.typeCall_list_1 _) F.entry_list_init (code_list_new _ ⟨rfl, rfl⟩) fun obj s₁ h₁ => ?_
  obtain ⟨rfl, rfl⟩ := h₁
  have hSz : (s.heap.push { cls := .type "list", data := .seq #[] }).get? s.heap.objs.size = some { cls := .type "list", data := .seq #[] } := Heap.get?_push_size _ rfl
  refine ⟨⟨_, hSz, rfl⟩, F.args_list_init_2 _ _, list_init_rev (A := A.in1) hh _ hSz (hitz.at fun o e => Heap.get?_push_of_some _ e) (hl.push _) hne hn h1 h2 fun h' tk acc' c' hk hS' hacc => ?_⟩
  exact ⟨rfl, hQ h' tk acc' c' (fun b o hb e => hk b o (Nat.ne_of_lt (Heap.lt_size e)) hb (Heap.get?_push_of_some _ e)) hS' hacc⟩
end
open L2 PyProof.Rows
/-- list(reversed(x)), x a list: a new list -/
def tListRev (K : PySem.W.Frag) (te : TE) : TE := fun σ H Q => te σ H fun v H1 => ∃ (a : Addr) (xs : List V), v = .ref a ∧ SqL K H1 a xs ∧ ∀ q, H1 q = none → Q (.ref q) (upd H1 q (.lst xs.reverse))
theorem pe_listRev {X : Cx} {e : Expr} {te : TE} {p p2 pos pos2 : Pos} (hc : X.calm = true) (hg : Gl X "list") (hm : X.mg "list" = none) (hg2 : Gl X "reversed") (hm2 : X.mg "reversed" = none) (he : PE X e te) (hs : starEach [e] X.env = (false, eval e X.env) :: starEach [] X.env := by rfl) (hs2 : starEach [.Call (.Name "reversed" p2) [e] [] pos2] X.env = (false, eval (.Call (.Name "reversed" p2) [e] [] pos2) X.env) :: starEach [] X.env := by rfl) :
    PE X (.Call (.Name "list" p) [.Call (.Name "reversed" p2) [e] [] pos2] [] pos) (tListRev X.K te) := by
  refine ⟨fun pz s σ H Q I h => ?_⟩
  refine Call_ (ld_blt I hg hm b_list (PyProof.Rows.callWith_type1 (args_cons (Call_ (ld_blt I hg2 hm2 PyProof.Rows.boot_reversed (PyProof.Rows.callWith_type1 (args_cons (thn (he.run pz s σ H _ I h) fun u s1 ⟨v, H1, J1, r1, q1⟩ => args_nil ?_) hs) hs rfl))) hs2) hs2 rfl))
  obtain ⟨a, xs, ev, hq, q⟩ := q1; subst ev
  obtain rfl : u = Value.ref a := r1; obtain ⟨itz, rvz, p', hz⟩ := J1.list hq
  refine call_reversed_list p'.isList (args_nil ?_); have k0 : ∀ b o, s1.heap.get? b = some o → (s1.heap.push (revObj a ((itz.toArray.size : Int) - 1))).get? b = some o := fun b o e => Heap.get?_push_of_some _ e
  have J2 : Inv X pz σ H1 { s1 with heap := s1.heap.push (revObj a ((itz.toArray.size : Int) - 1)) } := J1.kept (t' := s1.toks) k0
  obtain ⟨zf0, zf1, f2, zf3, zf4, zf5⟩ := J1.fpOk (H' := H1) (b := s1.heap.objs.size) (Nat.le_refl _) (J1.hok.fresh (Nat.le_refl _))
  have hl := p'.isList
  obtain ⟨ol, hol, _⟩ := id hl
  have hne : a ≠ s1.heap.objs.size := Nat.ne_of_lt (Heap.lt_size hol); have hn : itz.toArray.size ≤ sizeLine := by rw [List.size_toArray, ← rvz.length]; exact hz
  refine call_list_revI (s := { s1 with heap := s1.heap.push (revObj a ((itz.toArray.size : Int) - 1)) }) (J1.ok.hd hc) ⟨_, Heap.get?_push_size _ rfl, rfl, rfl⟩ (hl.push _) hne hn fun h' tk acc c' hk hS' hi => ?_
  have hz2 : (s1.heap.push (revObj a ((itz.toArray.size : Int) - 1))).objs.size = s1.heap.objs.size + 1 := Heap.size_push ..
  have J3 : Inv X pz σ (upd H1 (s1.heap.push (revObj a ((itz.toArray.size : Int) - 1))).objs.size (.lst xs.reverse)) { s1 with heap := h', toks := tk } := by
    refine J2.turnedNew (ch := [s1.heap.objs.size]) (fun b o hb e => hk b o (by simpa using hb) e) (fun b hb => ?_) (Nat.le_refl _) (show ObjOk X.prog X.w _ _ _ (.lst xs.reverse) from ⟨by rw [List.length_reverse]; exact hz, acc.toList, c', RT.vals_rev rvz hi, ?_⟩)
    · have e : b = s1.heap.objs.size := by simpa using hb
      subst e
      exact ⟨zf0, zf1, f2, zf3, zf4, zf5⟩
    · rw [Array.toArray_toList]
      exact hS'
  exact ⟨.ref (s1.heap.push (revObj a ((itz.toArray.size : Int) - 1))).objs.size, _, J3, rfl, q _ (J2.hok.fresh (Nat.le_refl _))⟩
end Bc

namespace Bc
open PySem L2 PyProof.Rows StX
/-! ### numbers that are not told -/
def EvN (te : TE) (σ : L2.St) (H : Hp) (P : Nat → Prop) : Prop := ∀ Q : VK, (∀ (n : Nat) H', P n → Same H H' → Q (.int (n : Nat)) H') → te σ H Q
section
variable {K : PySem.W.Frag} {σ : L2.St} {H : Hp} {ta tb te : TE} {D : Ends} {u : TS}
theorem evn_draw {E : XK} {t : TA} {s : Addr} {ns : List Int} {at_ many : Nat} (h : EvA t σ H [.ref s, .int (at_ : Nat), .int (many : Nat)]) (hS : SqL K H s (ns.map V.int)) (hl : ns.length ≤ 63) (hat : at_ ≤ 100000) (h1 : 1 ≤ many) (h2 : many ≤ 100000) :
    EvN (tCall (spDraw K) [] E t) σ H fun r => r < many := fun Q q => h _ fun H1 e1 => ⟨s, ns, at_, many, rfl, Same.seqL e1 hS, hl, hat, h1, h2, fun r H' e hr => q r H' hr (e1.trans e)⟩
theorem evn_add1 {P : Nat → Prop} (h : EvN tb σ H P) : EvN (tOp (rI0 fun i j => .int (i + j)) (tC (.int 1)) tb) σ H fun n => ∃ m, P m ∧ n = 1 + m := fun Q q => h _ fun m H' p e => ⟨1, m, rfl, rfl, by
  have z := q (1 + m) H' ⟨m, p, rfl⟩ e
  have e1 : ((1 + m : Nat) : Int) = 1 + (m : Int) := by omega
  rw [e1] at z
  exact z⟩
theorem evn_if {t : TT} {P : Nat → Prop} {b : Bool} (h : EvB t σ H b) (h1 : b = true → ∀ H', Same H H' → EvN ta σ H' P) (h2 : b = false → ∀ H', Same H H' → EvN tb σ H' P) : EvN (tIf t ta tb) σ H P := fun Q q => h _ fun H1 e1 => by
  cases b with
  | true => exact iteT (h1 rfl H1 e1 _ fun n H2 p e2 => q n H2 p (e1.trans e2))
  | false => exact iteF (h2 rfl H1 e1 _ fun n H2 p e2 => q n H2 p (e1.trans e2))
theorem evn_mono {P P' : Nat → Prop} (h : EvN te σ H P) (k : ∀ n, P n → P' n) : EvN te σ H P' := fun Q q => h _ fun n H' p e => q n H' (k n p) e
/-- (1, 1, 1, 0, 2)[r] -/
theorem evn_ix5 (h : ∀ H', Same H H' → EvN te σ H' fun r => r < 5) : EvN (tOp (rIxT K) (tTup (tCons (tC (.int 1)) (tCons (tC (.int 1)) (tCons (tC (.int 1)) (tCons (tC (.int 0)) (tCons (tC (.int 2)) tNil)))))) te) σ H fun n => n ≤ 2 := fun Q q => by
  refine ⟨by show 5 ≤ sizeLine; decide, fun p hp => h _ (same_upd hp) _ fun r H2 hr e2 => ?_⟩
  have hx : H2 p = some (.tup [.int 1, .int 1, .int 1, .int 0, .int 2]) := e2 _ _ upd_same
  have e := (same_upd (o := HO.tup [.int 1, .int 1, .int 1, .int 0, .int 2]) hp).trans e2
  have key : ∀ v : Nat, v ≤ 2 → ([V.int 1, .int 1, .int 1, .int 0, .int 2] : List V)[r]? = some (.int (v : Nat)) → rIxT K (.ref p) (.int (r : Nat)) H2 Q := fun v hv hg => ⟨p, _, r, _, rfl, rfl, SqT.of hx, atI_nat hg, q v H2 hv e⟩
  match r, hr with
  | 0, _ => exact key 1 (by decide) rfl
  | 1, _ => exact key 1 (by decide) rfl
  | 2, _ => exact key 1 (by decide) rfl
  | 3, _ => exact key 0 (by decide) rfl
  | 4, _ => exact key 2 (by decide) rfl
theorem q_asgN {P : Nat → Prop} {i : Nat} (h : EvN te σ H P) (k : ∀ (n : Nat) H', P n → Same H H' → u D (σ.set i (some (.int (n : Nat)))) H') : tSeq (tAsg te (gName i)) u D σ H := h _ fun n H' p e => k n H' p e
theorem q_forRN {P : Nat → Prop} {j : Nat} {tb : TS} (h : EvN te σ H P) (k : ∀ (n : Nat) H', P n → Same H H' → tSeq (tFor (iRng1 (tCons (tC (.int (n : Nat))) tNil)) (gName j) tb) u D σ H') : tSeq (tFor (iRng1 (tCons te tNil)) (gName j) tb) u D σ H := h _ fun n H' p e => k n H' p e
theorem q_tup2R {i j : Nat} {n : Nat} {R1 : V → Hp → Prop} {R2 : V → V → Hp → Prop} (h1 : ∀ Q : VK, (∀ v H1, R1 v H1 → Q v H1) → ta σ H Q) (h2 : ∀ v H1, R1 v H1 → ∀ Q : VK, (∀ w H2, R2 v w H2 → Q w H2) → tb σ H1 Q)
    (k : ∀ v w H2 p, R2 v w H2 → H2 p = none → u D ((σ.set i (some v)).set j (some w)) (upd H2 p (.tup [v, w]))) (hn : n = 2 := by rfl) :
    tSeq (tAsg (tTup (tCons ta (tCons tb tNil))) (gTup K n (gCons (gName i) (gCons (gName j) gNil)))) u D σ H :=
  h1 _ fun v H1 r1 => h2 v H1 r1 _ fun w H2 r2 => ⟨by show 2 ≤ sizeLine; decide, fun p hp => ⟨p, [v, w], rfl, SqT.of upd_same, hn.symm, v, [w], rfl, w, [], rfl, rfl, k v w H2 p r2 hp⟩⟩
theorem s_appR {ta te : TE} {l : Addr} {xs : List V} (R : V → Hp → Prop) (hl : H l = some (.lst xs)) (ha : Ev ta σ H (.ref l)) (hv : ∀ H', Same H H' → ∀ Q : VK, (∀ v H2, R v H2 → Q v H2) → te σ H' Q) (hR : ∀ v H2, R v H2 → H2 l = some (.lst xs)) (hz : xs.length < 100000)
    (k : ∀ v H2, R v H2 → D.nx σ (upd H2 l (.lst (xs ++ [v])))) : tDrop (tBM K "list" rAppend ta (tCons te tNil)) D σ H :=
  ha _ fun H1 e1 => ⟨.inl ⟨rfl, xs, SqL.of (e1 _ _ hl)⟩, hv H1 e1 _ fun v H2 r => ⟨l, xs, v, rfl, rfl, hR v H2 r, szl hz, k v H2 r⟩⟩
theorem q_forE {tn : TE} {tb : TS} {j j2 : Nat} {z : Str} (h : Ev tn σ H (.str z)) (Pv : Nat → L2.St → Hp → Prop) (h0 : ∀ H', Same H H' → Pv 0 σ H')
    (hs : ∀ i c σ' H1 H', z.cps[i]? = some c → Pv i σ' H1 → Same H1 H' → tb { D with nx := Pv (i + 1), ct := Pv (i + 1), bk := u D } ((σ'.set j (some (.int (i : Nat)))).set j2 (some (.str ⟨#[c]⟩))) H') (hd : ∀ σ' H', Pv z.cps.size σ' H' → u D σ' H') {n : Nat} (hn : n = 2 := by rfl) :
    tSeq (tFor (iEnumS (tCons tn tNil)) (gTup K n (gCons (gName j) (gCons (gName j2) gNil))) tb) u D σ H := h _ fun H1 e1 => ⟨z, rfl, for_it walk_enumS Pv (h0 H1 e1) (fun _ _ _ _ _ => True.intro) (fun i x σ' H2 H3 hi p y => by
      obtain ⟨T, c, rfl, hT, hc, rfl⟩ := y
      exact ⟨T, [.int (i : Nat), .str ⟨#[c]⟩], rfl, SqT.of upd_same, hn.symm, _, _, rfl, _, _, rfl, rfl, hs i c σ' H2 _ hc p (same_upd hT)⟩) hd⟩
end
/-! ### data that holds no list -/
def Tsm (H H' : Hp) : Prop := ∀ b xs, H b = some (.tup xs) → H' b = some (.tup xs)
theorem Tsm.same {H H' : Hp} (e : Same H H') : Tsm H H' := fun b xs h => e b _ h
theorem Tsm.trans {H H' H2 : Hp} (e : Tsm H H') (f : Tsm H' H2) : Tsm H H2 := fun b xs h => f b xs (e b xs h)
theorem Tsm.upd {H : Hp} {p : Addr} {o : HO} (h : ∀ xs, H p ≠ some (.tup xs)) : Tsm H (L2.upd H p o) := fun b xs q => by
  rw [upd_ne (fun z => by subst z; exact h _ q)]
  exact q
theorem Dt.drop_ts {H H' : Hp} {v : V} {d : Drop} (h : Dt H v (dDrop d)) (e : Tsm H H') : Dt H' v (dDrop d) := by
  cases h with
  | tup ha hx =>
    have ex := Dts.of_strs hx
    subst ex
    exact .tup (e _ _ ha) (Dts.strs d)
theorem Dts.drops_ts {H H' : Hp} (e : Tsm H H') : ∀ {r : Row} {vs : List V}, Dts H vs (r.map dDrop) → Dts H' vs (r.map dDrop)
  | [], _, .nil => .nil
  | _ :: _, _, .cons h k => .cons (h.drop_ts e) (Dts.drops_ts e k)
theorem Dt.row_ts {H H' : Hp} {v : V} {r : Row} (h : Dt H v (dRow r)) (e : Tsm H H') : Dt H' v (dRow r) := by
  cases h with
  | tup ha hx => exact .tup (e _ _ ha) (hx.drops_ts e)
theorem Dts.rowsL_ts {H H' : Hp} (e : Tsm H H') : ∀ {rs : List Row} {vs : List V}, Dts H vs (rs.map dRow) → Dts H' vs (rs.map dRow)
  | [], _, .nil => .nil
  | _ :: _, _, .cons h k => .cons (h.row_ts e) (Dts.rowsL_ts e k)
theorem Dt.rows_ts {H H' : Hp} {v : V} {r : Rows} (h : Dt H v (dRows r)) (e : Tsm H H') : Dt H' v (dRows r) := by
  have key : ∀ l : List Row, Dt H v (.tuple (l.map dRow)) → Dt H' v (.tuple (l.map dRow)) := fun l h => by
    cases h with
    | tup ha hx => exact .tup (e _ _ ha) (hx.rowsL_ts e)
  exact key [r.1, r.2] h
theorem Dk.kd_ts {H H' : Hp} (e : Tsm H H') : ∀ {ks : Knots} {kv : List (Key × V)}, Dk H kv (kd ks) → Dk H' kv (kd ks)
  | [], _, .nil => .nil
  | _ :: _, _, .cons h k => .cons (h.rows_ts e) (Dk.kd_ts e k)
end Bc

namespace Bc
open PySem L2 PyProof.Rows StX
/-! ### data made -/
section
variable {K : PySem.W.Frag} {σ : L2.St} {H : Hp} {ta tb te : TE} {D : Ends} {u : TS}
theorem evd_of {v : V} {d : PyData} (h : Ev te σ H v) (hd : Dt H v d) : EvD te σ H d := fun Q q => h _ fun H' e => q v H' e (hd.go e)
theorem evd_tup0 : EvD (tTup tNil) σ H (.tuple []) := fun Q q => ⟨Nat.zero_le _, fun p hp => q _ _ (same_upd hp) (.tup upd_same .nil)⟩
theorem evd_tup1 {d : PyData} (h : EvD te σ H d) : EvD (tTup (tCons te tNil)) σ H (.tuple [d]) := fun Q q => h _ fun v H1 e1 hd => ⟨by show 1 ≤ sizeLine; decide, fun p hp => q _ _ (e1.trans (same_upd hp)) (.tup upd_same (.cons (hd.go (same_upd hp)) .nil))⟩
theorem evd_tup2 {d e : PyData} (h : EvD ta σ H d) (k : ∀ H', Same H H' → EvD tb σ H' e) : EvD (tTup (tCons ta (tCons tb tNil))) σ H (.tuple [d, e]) := fun Q q =>
  h _ fun v H1 e1 hd => k H1 e1 _ fun w H2 e2 he => ⟨by show 2 ≤ sizeLine; decide, fun p hp => q _ _ (e1.trans (e2.trans (same_upd hp))) (.tup upd_same (.cons (hd.go (e2.trans (same_upd hp))) (.cons (he.go (same_upd hp)) .nil)))⟩
theorem evd_if {t : TT} {b : Bool} {d : PyData} (h : EvB t σ H b) (h1 : b = true → ∀ H', Same H H' → EvD ta σ H' d) (h2 : b = false → ∀ H', Same H H' → EvD tb σ H' d) : EvD (tIf t ta tb) σ H d := fun Q q => h _ fun H1 e1 => by
  cases b with
  | true => exact iteT (h1 rfl H1 e1 _ fun v H2 e2 p => q v H2 (e1.trans e2) p)
  | false => exact iteF (h2 rfl H1 e1 _ fun v H2 e2 p => q v H2 (e1.trans e2) p)
theorem Dts.nil_of {H : Hp} {vs : List V} {ds : List PyData} (h : Dts H vs ds) (e : vs = []) : ds = [] := by
  subst e
  cases h
  rfl
theorem evd_cat {ds es : List PyData} (h : EvD ta σ H (.tuple ds)) (k : ∀ H', Same H H' → EvD tb σ H' (.tuple es)) (hl : ds.length + es.length ≤ 100000) : EvD (tOp (rCatA K) ta tb) σ H (.tuple (ds ++ es)) := fun Q q =>
  h _ fun v H1 e1 hd => k H1 e1 _ fun w H2 e2 he => by
    cases hd with
    | @tup a xs _ ha hx =>
    cases he with
    | @tup b ys _ hb hy =>
    have ha2 := e2 _ _ ha
    have hx2 := hx.go e2
    have e := e1.trans e2
    refine ⟨a, b, xs, ys, rfl, rfl, SqT.of ha2, SqT.of hb, by rw [hx2.length, hy.length]; exact sz hl, fun z => ?_, fun z1 z2 => ?_, fun _ _ p hp => ?_⟩
    · have z' := hx2.nil_of z
      subst z'
      exact q _ _ e (.tup hb hy)
    · have z' := hy.nil_of z2
      subst z'
      rw [List.append_nil] at q
      exact q _ _ e (.tup ha2 hx2)
    · exact q _ _ (e.trans (same_upd hp)) (.tup upd_same ((hx2.append hy).go (same_upd hp)))
theorem evd_from {tl : TE} {ds : List PyData} {c : Nat} (h : EvD te σ H (.tuple ds)) (hc : ∀ H', Same H H' → Ev tl σ H' (.int (c : Nat))) : EvD (tSl (rSlA K) te (tPart tl) tNoPart) σ H (.tuple (ds.drop c)) := fun Q q =>
  h _ fun v H1 e1 hd => hc H1 e1 _ fun H2 e2 => ⟨_, rfl, by
    cases hd with
    | @tup a xs _ ha hx =>
    have ha2 := e2 _ _ ha
    have hx2 := hx.go e2
    have hl := hx2.length
    have e := e1.trans e2
    have key : cutV xs (some (c : Nat)) none = xs.drop c := by
      unfold cutV
      rw [HT.sIx_nat, HT.sIx_none]
      rcases Nat.le_total c xs.length with z | z
      · rw [Nat.min_eq_left z, List.take_of_length_le (by rw [List.length_drop]; exact Nat.le_refl _)]
      · rw [Nat.min_eq_right z, List.drop_of_length_le (Nat.le_refl _), List.drop_of_length_le z, List.take_nil]
    refine ⟨a, xs, rfl, SqT.of ha2, fun z => ?_, fun z p hp => ?_⟩
    · have h1 := z.1
      rw [HT.sIx_nat] at h1
      have h0 : c = 0 ∨ xs.length = 0 := by omega
      rcases h0 with h0 | h0
      · subst h0
        exact q _ _ e (.tup ha2 hx2)
      · have : ds = [] := List.length_eq_zero_iff.mp (by omega)
        subst this
        rw [List.drop_nil] at q
        exact q _ _ e (.tup ha2 hx2)
    · rw [key]
      exact q _ _ (e.trans (same_upd hp)) (.tup upd_same ((hx2.drop c).go (same_upd hp)))⟩
theorem evd_upto {tl : TE} {ds : List PyData} {c : Nat} (h : EvD te σ H (.tuple ds)) (hc : ∀ H', Same H H' → Ev tl σ H' (.int (c : Nat))) : EvD (tSl (rSlA K) te tNoPart (tPart tl)) σ H (.tuple (ds.take c)) := fun Q q =>
  h _ fun v H1 e1 hd => hc H1 e1 _ fun H2 e2 => ⟨_, rfl, by
    cases hd with
    | @tup a xs _ ha hx =>
    have ha2 := e2 _ _ ha
    have hx2 := hx.go e2
    have hl := hx2.length
    have e := e1.trans e2
    have key : cutV xs none (some (c : Nat)) = xs.take c := by
      unfold cutV
      rw [HT.sIx_nat, HT.sIx_none, List.drop_zero, Nat.sub_zero]
      rcases Nat.le_total c xs.length with z | z
      · rw [Nat.min_eq_left z]
      · rw [Nat.min_eq_right z, List.take_of_length_le (Nat.le_refl _), List.take_of_length_le z]
    refine ⟨a, xs, rfl, SqT.of ha2, fun z => ?_, fun z p hp => ?_⟩
    · have h1 := z.2
      rw [HT.sIx_nat] at h1
      rw [List.take_of_length_le (by omega)] at q
      exact q _ _ e (.tup ha2 hx2)
    · rw [key]
      exact q _ _ (e.trans (same_upd hp)) (.tup upd_same ((hx2.take c).go (same_upd hp)))⟩
theorem q_asgD {d : PyData} {i : Nat} (h : EvD te σ H d) (k : ∀ v H', Same H H' → Dt H' v d → u D (σ.set i (some v)) H') : tSeq (tAsg te (gName i)) u D σ H := h _ fun v H' e p => k v H' e p
theorem s_dputD {td ty tv : TE} {a : Addr} {kvs : List (Key × V)} {k : Key} {d : PyData} (hv : EvD tv σ H d) (hd : ∀ H', Same H H' → Ev td σ H' (.ref a)) (hk : ∀ H', Same H H' → Ev ty σ H' (kV k)) (h : H a = some (.dK kvs)) (hl : kvs.length < 100000)
    (q : ∀ v H', Same H H' → Dt H' v d → D.nx σ (upd H' a (.dK (putK kvs k v)))) : sDPut td ty tv D σ H :=
  hv _ fun v H1 e1 p => hd H1 e1 _ fun H2 e2 => hk H2 (e1.trans e2) _ fun H3 e3 => ⟨a, _, rfl, DPut.k ((e1.trans (e2.trans e3)) _ _ h) (szl hl), q v H3 (e1.trans (e2.trans e3)) (p.go (e2.trans e3))⟩
theorem ev_lenDt {v : V} {ds : List PyData} (ha : Ev ta σ H v) (h : Dt H v (.tuple ds)) : Ev (tCB (rLen K) (tCons ta tNil)) σ H (.int (ds.length : Nat)) := by
  cases h with
  | @tup a xs _ h1 h2 =>
  have z := ev_lenT (K := K) ha h1
  rw [h2.length] at z
  exact z
end
/-! ### the names of the knots -/
def abcd : Str := "abcd"
def ab : List Str := ["a", "b", "c", "d"]
def nmS (r : Nat) : Str := cutS abcd none (some ((1 + r : Nat) : Int))
theorem nm_sgn : ∀ r, r < 4 → sgn (nmS r) = ab.take (1 + r)
  | 0, _ => by decide +kernel
  | 1, _ => by decide +kernel
  | 2, _ => by decide +kernel
  | 3, _ => by decide +kernel
theorem nm_size : ∀ r, r < 4 → (nmS r).cps.size = 1 + r
  | 0, _ => by decide +kernel
  | 1, _ => by decide +kernel
  | 2, _ => by decide +kernel
  | 3, _ => by decide +kernel
theorem nm_at {r i c : Nat} (hr : r < 4) (h : (nmS r).cps[i]? = some c) : (ab.take (1 + r))[i]? = some ⟨#[c]⟩ := by
  rw [← nm_sgn r hr]
  unfold sgn
  rw [List.getElem?_map, Array.getElem?_toList, h]
  rfl
theorem nm_cp {r i : Nat} {y : Str} (hr : r < 4) (h : (ab.take (1 + r))[i]? = some y) : ∃ c, (nmS r).cps.toList[i]? = some c ∧ y = ⟨#[c]⟩ := by
  rw [← nm_sgn r hr] at h
  unfold sgn at h
  rw [List.getElem?_map] at h
  obtain ⟨c, h1, h2⟩ := Option.map_eq_some_iff.mp h
  exact ⟨c, h1, h2.symm⟩
/-- targets of drawn drops -/
def tgs (n : Nat) : List Str := ab.take n ++ (["o", "p"] : List Str)
def okd (n : Nat) (d : Drop) : Prop := d.length ≤ 2 ∧ ∀ x ∈ d, x ∈ tgs n
structure DRows (n : Nat) (r : Rows) : Prop where
  l1 : r.1.length ≤ 2
  l2 : 1 ≤ r.2.length
  l3 : r.2.length ≤ 5
  ok1 : ∀ d ∈ r.1, okd n d
  ok2 : ∀ d ∈ r.2, okd n d
/-- the first i knots of n drawn ones -/
structure DKn (n i : Nat) (ks : Knots) : Prop where
  names : kn ks = (ab.take n).take i
  rows : ∀ p ∈ ks, DRows n p.2
  next : ∀ (j : Nat) (x : Str) (r : Rows) (y : Str), ks[j]? = some (x, r) → (ab.take n)[j + 1]? = some y → [y] ∈ r.2
section
variable {K : PySem.W.Frag} {σ : L2.St} {H : Hp} {ta tb te : TE} {D : Ends} {u : TS}
/-- list(names) + ['o', 'p'] -/
theorem el_tgs {r : Nat} (hr : r < 4) (h : Ev ta σ H (.str (nmS r))) : EvL (tOp rCat (tCB rListS (tCons ta tNil)) (tLst (tCons (tC (.str "o")) (tCons (tC (.str "p")) tNil)))) σ H ((tgs (1 + r)).map V.str) := fun Q q =>
  h _ fun H1 e1 => ⟨nmS r, rfl, by show (nmS r).cps.size ≤ sizeLine; rw [nm_size r hr]; exact sz (by omega), fun l hl => ⟨by show 2 ≤ sizeLine; decide, fun p hp => ⟨l, p, (sgn (nmS r)).map V.str, [.str "o", .str "p"], rfl, rfl, by
    rw [upd_ne (fun z => by rw [← z, upd_same] at hp; cases hp), upd_same], upd_same, by
    rw [List.length_map, nm_sgn r hr, List.length_take]
    exact sz (by show min (1 + r) 4 + 2 ≤ 100000; omega), fun w hw => by
    have e := e1.trans ((same_upd (o := HO.lst ((sgn (nmS r)).map V.str)) hl).trans ((same_upd (o := HO.lst [.str "o", .str "p"]) hp).trans (same_upd (o := HO.lst ((sgn (nmS r)).map V.str ++ [.str "o", .str "p"])) hw)))
    refine q w _ ?_ e ?_
    · cases z : H w with
      | none => rfl
      | some o =>
        have z2 := (e1.trans ((same_upd (o := HO.lst ((sgn (nmS r)).map V.str)) hl).trans (same_upd (o := HO.lst [.str "o", .str "p"]) hp))) _ _ z
        rw [hw] at z2
        cases z2
    · rw [upd_same, nm_sgn r hr]
      unfold tgs
      rw [List.map_append]
      rfl⟩⟩⟩
/-- a comprehension of texts of tg: as many as told -/
theorem lc_strs {σ : L2.St} {H1 : Hp} {E : XK} {te : TE} {j : Nat} {vs : List Nat} {S : Str → Prop} {m : Nat} (hm : m ≤ 2) (hw : ∀ x, wipe ((wipe σ vs).set j (some x)) vs = wipe σ vs) {Q1 : VK}
    (hs : ∀ (i : Nat) H, i < m → Same H1 H → ∀ Q : VK, (∀ z H4, S z → Same H H4 → Q (.str z) H4) → te ((wipe σ vs).set j (some (.int (i : Nat)))) H Q) (D : Addr) (hD : H1 D = none)
    (q : ∀ zs : List Str, zs.length = m → (∀ z ∈ zs, S z) → ∀ H, Same H1 H → H D = some (.lst (zs.map V.str)) → Q1 (.ref D) H) :
    ∃ W : Nat → Nat → Hp → Prop, (∃ m, W 0 m (upd H1 D (.lst []))) ∧ ∀ i k H, W i k H →
      ((Itr 0 ((m : Nat) : Int).toNat).stop i H ∧ Q1 (.ref D) H) ∨ ((Itr 0 ((m : Nat) : Int).toNat).go i H ∧ ∃ Nx : Hp → Prop, (∀ H', Nx H' → ∃ m', m' < k ∧ W (i + 1) m' H') ∧ ∀ x H', (Itr 0 ((m : Nat) : Int).toNat).yld i H x H' → gName j x (wipe σ vs) H' fun σ2 H2 => wipe σ2 vs = wipe σ vs ∧ tYes σ2 H2 fun b H3 => if b = true then te σ2 H3 fun y H4 => ∃ acc, H4 D = some (.lst acc) ∧ acc.length < sizeLine ∧ Nx (upd H4 D (.lst (acc ++ [y]))) else Nx H3) := by
  have em : ((m : Nat) : Int).toNat = m := by omega
  rw [em]
  refine lc_name (walk_range (lo := 0) (n := m)) (fun _ y _ => ∃ z, S z ∧ y = .str z) (fun _ _ _ _ _ h => h) hD (by omega) (fun _ _ => True.intro) hw (fun i x H H' hi e y => ?_) (fun ys H hl hr e h => ?_)
  · obtain ⟨rfl, rfl⟩ := y
    refine ⟨Same.refl _, fun Q k => ?_⟩
    show te ((wipe σ vs).set j (some (.int (0 + (i : Nat))))) _ Q
    rw [Int.zero_add]
    exact hs i _ hi e Q fun z H4 sz e4 => k _ H4 e4 ⟨z, sz, rfl⟩
  · have key : ∀ ys : List V, (∀ y ∈ ys, ∃ z, S z ∧ y = V.str z) → ∃ zs : List Str, ys = zs.map V.str ∧ ∀ z ∈ zs, S z := by
      intro ys
      induction ys with
      | nil => intro _; exact ⟨[], rfl, fun _ h => nomatch h⟩
      | cons y r ih =>
        intro hy
        obtain ⟨z, sz, rfl⟩ := hy y List.mem_cons_self
        obtain ⟨zs, rfl, h2⟩ := ih fun y' h' => hy y' (List.mem_cons_of_mem _ h')
        exact ⟨z :: zs, rfl, fun x hx => (List.mem_cons.mp hx).elim (fun e => e ▸ sz) (h2 x)⟩
    obtain ⟨zs, rfl, h2⟩ := key ys fun y hy => by
      obtain ⟨i, hi, rfl⟩ := List.mem_iff_getElem.mp hy
      exact hr i _ (List.getElem?_eq_getElem hi)
    exact q zs (by rw [← hl, List.length_map]) h2 H e h
end
end Bc

namespace Bc
open PySem L2 PyProof.Rows StX
section
variable {P : Program} {w : World} {K : PySem.W.Frag} {mg : Str → Option Value} {base : Heap} {ad : Ad}
theorem call_lenK {X : Cx} {K : PySem.W.Frag} (h : X.K = K) : CallR X (.builtin "len") (rLen K) := by
  subst h
  exact call_len_seq
theorem ix_listK {X : Cx} {K : PySem.W.Frag} (h : X.K = K) : IxR X (rIxL K) := by
  subst h
  exact ix_list
theorem ev_nms {σ : L2.St} {H : Hp} {te : TE} (h : EvN te σ H fun n => ∃ m, m < 4 ∧ n = 1 + m) (Q : VK) (q : ∀ v H', (∃ r, r < 4 ∧ v = .str (nmS r) ∧ Same H H') → Q v H') : tSl rSlS (tC (.str abcd)) tNoPart (tPart te) σ H Q :=
  h _ fun n H' ⟨m, hm, hn⟩ e => by
    subst hn
    exact ⟨_, rfl, abcd, rfl, by decide, q _ _ ⟨m, hm, rfl, e⟩⟩
theorem eu_tupOfR {K : PySem.W.Frag} {σ : L2.St} {H : Hp} {ta : TE} {R : List Str → Prop} (h : ∀ Q : VK, (∀ p H' zs, R zs → Same H H' → H' p = some (.lst (zs.map V.str)) → Q (.ref p) H') → ta σ H Q) (Q : VK) (q : ∀ p H' zs, R zs → Same H H' → H' p = some (.tup (zs.map V.str)) → Q (.ref p) H') :
    tCB (rTupOf K) (tCons ta tNil) σ H Q := h _ fun p H1 zs r e hx => ⟨p, _, rfl, .inl ⟨SqL.of hx, fun l hl => q l _ zs r (e.trans (same_upd hl)) upd_same⟩⟩
def PR (n k : Nat) (rr : Row) : Prop := (∀ d ∈ rr, okd n d) ∧ (k = 0 → rr.length ≤ 2) ∧ (k ≠ 0 → 1 ≤ rr.length ∧ rr.length ≤ 3)
def oRow (b : Bool) : Row := if b then [["o"]] else []
def nxt (n i : Nat) : Row := match (ab.take n)[i]? with | some y => [[y]] | none => []
theorem nxt_some {n i : Nat} {y : Str} (h : (ab.take n)[i]? = some y) : nxt n i = [[y]] := by
  unfold nxt
  rw [h]
theorem nxt_none {n i : Nat} (h : (ab.take n)[i]? = none) : nxt n i = [] := by
  unfold nxt
  rw [h]
theorem nxt_len (n i : Nat) : (nxt n i).length ≤ 1 := by
  cases h : (ab.take n)[i]? with
  | none => rw [nxt_none h]; exact Nat.zero_le _
  | some y => rw [nxt_some h]; exact Nat.le_refl _
theorem nxt_ok {n i : Nat} : ∀ d ∈ nxt n i, okd n d := by
  cases h : (ab.take n)[i]? with
  | none => rw [nxt_none h]; intro d hd; cases hd
  | some y =>
    rw [nxt_some h]
    intro d hd
    rw [List.mem_singleton.mp hd]
    exact ⟨Nat.le_succ 1, fun x hx => by rw [List.mem_singleton.mp hx]; exact List.mem_append_left _ (List.mem_of_getElem? h)⟩
theorem oRow_ok {n : Nat} {b : Bool} : ∀ d ∈ oRow b, okd n d := by
  cases b with
  | false => intro d hd; cases hd
  | true =>
    intro d hd
    rw [List.mem_singleton.mp hd]
    exact ⟨by decide, fun x hx => by rw [List.mem_singleton.mp hx]; exact List.mem_append_right _ List.mem_cons_self⟩
theorem oRow_len (b : Bool) : (oRow b).length ≤ 1 := by cases b <;> decide
theorem ab_len {r : Nat} (h : r < 4) : (ab.take (1 + r)).length = 1 + r := by
  rw [List.length_take]
  show min (1 + r) 4 = _
  omega
theorem ab_nodup (n : Nat) : (ab.take n).Nodup := List.Nodup.sublist (List.take_sublist _ _) (by decide +kernel)
theorem Dk.snoc {H : Hp} {v : V} {k : Str} {d : PyData} (hd : Dt H v d) : ∀ {kv : List (Key × V)} {ds : List (Str × PyData)}, Dk H kv ds → Dk H (kv ++ [(.inr k, v)]) (ds ++ [(k, d)])
  | _, _, .nil => .cons hd .nil
  | _, _, .cons h r => .cons h (Dk.snoc hd r)
theorem tgs_pos (n : Nat) : 1 ≤ (tgs n).length := by
  unfold tgs
  rw [List.length_append]
  show 1 ≤ _ + 2
  omega
theorem tgs_len (n : Nat) : (tgs n).length ≤ 100000 := by
  unfold tgs
  rw [List.length_append, List.length_take]
  show min n 4 + 2 ≤ 100000
  omega
theorem ints_a3 {f g m i : Nat} : ((f : Int) + (g : Int) + 5 * (m : Int) + (i : Int)) = ((f + g + 5 * m + i : Nat) : Int) := by omega
theorem ints_a2 {f g m : Nat} : ((f : Int) + (g : Int) + 5 * (m : Int)) = ((f + g + 5 * m : Nat) : Int) := by omega
theorem ints_at {a b d : Nat} : ((a : Int) + 10 + 40 * (b : Int) + 12 * (d : Int)) = ((a + 10 + 40 * b + 12 * d : Nat) : Int) := by omega
/-! ### _law_knots -/
def spLKnots (K : PySem.W.Frag) : Sp := fun vs H Q _ => ∃ (s : Addr) (ns : List Int) (at_ : Nat) (b : Bool), vs = [.ref s, .int at_, .bl b] ∧ SqL K H s (ns.map V.int) ∧ ns.length ≤ 63 ∧ at_ ≤ 1000 ∧
  ∀ (p : Addr) (kv : List (Key × V)) (ks : Knots) (r : Nat) H', r < 4 → H p = none → Same H H' → H' p = some (.dK kv) → Dk H' kv (kd ks) → DKn (1 + r) (1 + r) ks → Q (.ref p) H'
abbrev nmLK : List Str := ["script", "at", "lossy", "names", "knots", "targets", "spot", "name", "rows", "part", "row", "first", "turn", "many", "last", "cut", "one"]
theorem scLKnots : FnScope nmLK ["script", "at", "lossy"] (defScope sLKnots) := ⟨rfl, rfl, rfl, by decide +kernel, rfl, by decide +kernel, by decide +kernel⟩
theorem ok_lknots (T : Tx K mg ad) : FnOk P w K mg base CX0 3 ad.lKnots ad.dLKnots ["script", "at", "lossy"] (spLKnots K) := by
  have G : FnOk P w K mg base CX0 2 ad.draw ad.dDraw ["script", "at", "many"] (spDraw K) := ok_draw T
  have b := T.fDraw.binds (ps := ["script", "at", "many"]) fun _ _ _ _ _ _ us hl => match us, hl with | [_, _, _], _ => rfl
  refine T.fLKnots.ok scLKnots (fun vs H Q E h => ?_) (fun cdv A outer s H vs Q E hr h => ?_)
  · obtain ⟨sa, ns, at_, b, rfl, _⟩ := h
    rfl
  · obtain ⟨sa, ns, at_, lossy, rfl, hS, hl, hat, k⟩ := h
    refine ⟨_, pss_cons (ps_set (i := 3) scLKnots.nd rfl (.inl rfl) (pe_slice sl_str pe_str po_none (po_some (pe_op op_add pe_int (pe_call G hr (by rfl) T.gDraw T.fDraw.kp b .nil pass0 (pa_cons (pv 0) (pa_cons (pv 1) (pa_cons pe_int pa_nil))))))))
      (pss_cons (ps_asg (pe_tup (pa_cons pe_dnewK (pa_cons (pe_op op_cat (pe_callTy (call_listS rfl) (by rfl) T.list b_list (pa_cons (pv 3) pa_nil)) (pe_lst (pa_cons pe_str (pa_cons pe_str pa_nil)))) pa_nil))) (pg_tup (by rfl) (pgs_cons (pg_name (i := 4) scLKnots.nd rfl (.inl rfl)) (pgs_cons (pg_name (i := 5) scLKnots.nd rfl (.inr rfl)) pgs_nil))))
      (pss_cons (ps_for PassesOwn.never rfl (pi_enumS (by rfl) T.enumerate (pa_cons (pv 3) pa_nil)) (pg_tup (by rfl) (pgs_cons (pg_name (i := 6) scLKnots.nd rfl (.inl rfl)) (pgs_cons (pg_name (i := 7) scLKnots.nd rfl (.inl rfl)) pgs_nil)))
        (pss_cons (ps_set (i := 8) scLKnots.nd rfl (.inl rfl) (pe_lst pa_nil))
        (pss_cons (ps_for PassesOwn.never rfl (pi_range1 (by rfl) T.range (pa_cons pe_int pa_nil)) (pg_name (i := 9) scLKnots.nd rfl (.inl rfl))
          (pss_cons (ps_asg (pe_tup (pa_cons (pe_lst pa_nil) (pa_cons (pe_op op_add (pe_op op_add (pe_op op_add (pv 1) pe_int) (pe_op op_mul pe_int (pv 6))) (pe_op op_mul pe_int (pv 9))) pa_nil))) (pg_tup (by rfl) (pgs_cons (pg_name (i := 10) scLKnots.nd rfl (.inl rfl)) (pgs_cons (pg_name (i := 11) scLKnots.nd rfl (.inr rfl)) pgs_nil))))
          (pss_cons (ps_for PassesOwn.never rfl (pi_range1 (by rfl) T.range (pa_cons (pe_ifExp (pt_cmpR op_eq (pv 9) pe_int (nomark _)) (pe_call G hr (by rfl) T.gDraw T.fDraw.kp b .nil pass0 (pa_cons (pv 0) (pa_cons (pv 11) (pa_cons pe_int pa_nil)))) (pe_op op_add pe_int (pe_call G hr (by rfl) T.gDraw T.fDraw.kp b .nil pass0 (pa_cons (pv 0) (pa_cons (pv 11) (pa_cons pe_int pa_nil)))))) pa_nil)) (pg_name (i := 12) scLKnots.nd rfl (.inr rfl))
            (pss_cons (ps_set (i := 13) scLKnots.nd rfl (.inl rfl) (pe_ix ix_tup (pe_tup (pa_cons pe_int (pa_cons pe_int (pa_cons pe_int (pa_cons pe_int (pa_cons pe_int pa_nil)))))) (pe_call G hr (by rfl) T.gDraw T.fDraw.kp b .nil pass0 (pa_cons (pv 0) (pa_cons (pe_op op_add (pe_op op_add (pv 11) pe_int) (pe_op op_mul pe_int (pv 12))) (pa_cons pe_int pa_nil)))) (fun _ _ => rfl)))
            (pss_one (ps_expr (pe_bm PySem.F.plainAttrs_list PySem.F.slot_list_append PySem.F.type_list_append mt_append (pv 10) (pa_cons (pe_callTy call_tuple_of (by rfl) T.tuple b_tuple (pa_cons (pe_lc (own := [("one", 16)]) (g := gName 16) (tt := tYes) rfl scLKnots.nd (pi_range1 (by rfl) T.range (pa_cons (pv 13) pa_nil)) (blkOk_by (N := nmLK) (sc := defScope sLKnots) (by decide +kernel))
              (fun _ _ _ _ _ => pg_name (i := 16) scLKnots.nd rfl (Or.inl rfl)) (fun _ _ _ _ _ => pts_nil) (fun _ _ _ _ _ => pe_ix (ix_listK (K := K) rfl) (pv 5) (pe_call G hr (by rfl) T.gDraw T.fDraw.kp b .nil pass0 (pa_cons (pv 0) (pa_cons (pe_op op_add (pe_op op_add (pe_op op_add (pv 11) pe_int) (pe_op op_mul pe_int (pv 12))) (pv 16)) (pa_cons (pe_callB (call_lenK (K := K) rfl) (by rfl) T.len PySem.boot_len (pa_cons (pv 5) pa_nil)) pa_nil)))) (fun _ _ => rfl))) pa_nil)) pa_nil))))))
          (pss_one (ps_expr (pe_bm PySem.F.plainAttrs_list PySem.F.slot_list_append PySem.F.type_list_append mt_append (pv 8) (pa_cons (pe_callTy call_tuple_of (by rfl) T.tuple b_tuple (pa_cons (pv 10) pa_nil)) pa_nil)))))))
        (pss_cons (ps_set (i := 14) scLKnots.nd rfl (.inl rfl) (pe_ifExp (pt_cmpR op_lt (pe_op op_add (pv 6) pe_int) (pe_callB call_len_str (by rfl) T.len PySem.boot_len (pa_cons (pv 3) pa_nil)) (nomark _)) (pe_tup (pa_cons (pe_tup (pa_cons (pe_ix ix_str (pv 3) (pe_op op_add (pv 6) pe_int) (fun _ _ => rfl)) pa_nil)) pa_nil)) (pe_tup pa_nil)))
        (pss_cons (ps_set (i := 12) scLKnots.nd rfl (.inr rfl) (pe_op op_catA (pe_op op_catA (pe_ix ix_list (pv 8) pe_int (fun _ _ => rfl)) (pv 14)) (pe_ifExp (pt_val (pv 2)) (pe_tup (pa_cons (pe_tup (pa_cons pe_str pa_nil)) pa_nil)) (pe_tup pa_nil))))
        (pss_cons (ps_set (i := 15) scLKnots.nd rfl (.inl rfl) (pe_call G hr (by rfl) T.gDraw T.fDraw.kp b .nil pass0 (pa_cons (pv 0) (pa_cons (pe_op op_add (pe_op op_add (pv 1) pe_int) (pv 6)) (pa_cons (pe_callB call_len_seq (by rfl) T.len PySem.boot_len (pa_cons (pv 12) pa_nil)) pa_nil)))))
        (pss_one (ps_dput (hu_of hr) (pv 4) (pv 7) (pe_tup (pa_cons (pe_ix ix_list (pv 8) pe_int (fun _ _ => rfl)) (pa_cons (pe_op op_catA (pe_slice sl_tupA (pv 12) (po_some (pv 15)) po_none) (pe_slice sl_tupA (pv 12) po_none (po_some (pv 15)))) pa_nil))) rfl))))))))
      (pss_one (ps_ret (pv 4))))), ?_⟩
    have dr : ∀ {σ : L2.St} {H1 : Hp} {E' : XK} {ta tm : TE} {a m : Nat}, σ[0]? = some (some (.ref sa)) → Same H H1 → (∀ H', Same H1 H' → Ev ta σ H' (.int (a : Nat))) → (∀ H', Same H1 H' → Ev tm σ H' (.int (m : Nat))) → a ≤ 100000 → 1 ≤ m → m ≤ 100000 →
        EvN (tCall (spDraw K) [] E' (tCons (tVar 0) (tCons ta (tCons tm tNil)))) σ H1 fun r => r < m := fun h0 e1 ha hm h1 h2 h3 =>
      evn_draw (ea_cons (ev_tv h0) fun H2 e2 => ea_cons (ha H2 e2) fun H3 e3 => ea_cons (hm H3 (e2.trans e3)) fun _ _ => ea_nil) (Same.seqL e1 hS) hl h1 h2 h3
    refine q_asgR (fun v H' => ∃ r, r < 4 ∧ v = .str (nmS r) ∧ Same H H') (fun Q q => ev_nms (evn_add1 (dr rfl (Same.refl _) (fun _ _ => ev_tv rfl) (fun _ _ => ev_tc) (by omega) (by decide) (by decide))) Q q) fun v H1 hv => ?_
    obtain ⟨r, hr4, rfl, e1⟩ := hv
    refine q_tup2R (R1 := fun v H2 => ∃ p, v = .ref p ∧ H1 p = none ∧ H2 = upd H1 p (.dK [])) (R2 := fun v w H3 => ∃ p t, v = .ref p ∧ w = .ref t ∧ H1 p = none ∧ Same (upd H1 p (.dK [])) H3 ∧ H3 t = some (.lst ((tgs (1 + r)).map V.str)))
      (fun Q q p hp => q _ _ ⟨p, rfl, hp, rfl⟩) (fun v H2 hv Q q => ?_) fun v w H3 p3 hvw hp3 => ?_
    · obtain ⟨p, rfl, hp, rfl⟩ := hv
      exact el_tgs hr4 (ev_tv rfl) Q fun t H3 ht e3 hx => q _ _ ⟨p, t, rfl, rfl, hp, e3, hx⟩
    obtain ⟨ka, tg, rfl, rfl, hka1, e3, htg⟩ := hvw
    have hka : H ka = none := e1.free hka1
    have ne_tg : tg ≠ ka := ne_of htg (e3 _ _ upd_same) (by intro z; cases z)
    have e13 : Same H (upd H3 p3 (.tup [.ref ka, .ref tg])) := e1.trans (((same_upd hka1).trans e3).trans (same_upd hp3))
    refine q_forE (K := K) (z := nmS r) (ev_tv rfl) (fun i σ H' => (∃ x6 x7 x8 x9 x10 x11 x12 x13 x14 x15 x16, σ = [some (.ref sa), some (.int at_), some (.bl lossy), some (.str (nmS r)), some (.ref ka), some (.ref tg), x6, x7, x8, x9, x10, x11, x12, x13, x14, x15, x16]) ∧ Same H H' ∧
        H' tg = some (.lst ((tgs (1 + r)).map V.str)) ∧ ∃ kv ks, H' ka = some (.dK kv) ∧ Dk H' kv (kd ks) ∧ DKn (1 + r) i ks)
      (fun H' e => ⟨⟨none, none, none, none, none, none, none, none, none, none, none, rfl⟩, e13.trans e, e _ _ (same_upd hp3 _ _ htg), [], [], e _ _ (same_upd hp3 _ _ (e3 _ _ upd_same)), .nil, ⟨by rw [List.take_zero]; rfl, (fun p h => nomatch h), fun j x r y h => by simp at h⟩⟩) (fun i c σ' H4 H5 hc q e45 => ?_) (fun σ' H' q => ?_)
    · obtain ⟨⟨x6, x7, x8, x9, x10, x11, x12, x13, x14, x15, x16, rfl⟩, e04, htg4, kv, ks, hkv, hdk, dk⟩ := q
      have e05 := e04.trans e45
      have hz := nm_at hr4 hc
      have hi4 : i < 4 := by
        have := Array.getElem?_eq_some_iff.mp hc
        obtain ⟨w, _⟩ := this
        rw [nm_size r hr4] at w
        omega
      refine q_asgL el_nil fun ra H6 hra5 e56 hra => ?_
      refine q_forR1 (n := 2) (ea_cons ev_tc fun _ _ => ea_nil) (by decide) (fun j σ H' => (∃ x9 x10 x11 x12 x13 x14 x15 x16, σ = [some (.ref sa), some (.int at_), some (.bl lossy), some (.str (nmS r)), some (.ref ka), some (.ref tg), some (.int (i : Nat)), some (.str ⟨#[c]⟩), some (.ref ra), x9, x10, x11, x12, x13, x14, x15, x16]) ∧ Same H5 H' ∧
        ∃ vs rs, H' ra = some (.lst vs) ∧ Dts H' vs (rs.map dRow) ∧ rs.length = j ∧ ∀ k rr, rs[k]? = some rr → PR (1 + r) k rr)
        (fun H' e => ⟨⟨_, _, _, _, _, _, _, _, rfl⟩, e56.trans e, [], [], e _ _ hra, .nil, rfl, fun k rr h => by simp at h⟩) (fun j σ' H7 hj q => ?_) (fun σ' H7 q => ?_)
      · obtain ⟨⟨x9, x10, x11, x12, x13, x14, x15, x16, rfl⟩, e57, vs, rs, hvs, hds, hrl, hrs⟩ := q
        refine q_tup2R (R1 := fun v H8 => ∃ p, v = .ref p ∧ H7 p = none ∧ Same H7 H8 ∧ H8 p = some (.lst [])) (R2 := fun v w H8 => ∃ p, v = .ref p ∧ H7 p = none ∧ Same H7 H8 ∧ H8 p = some (.lst []) ∧ w = .int ((at_ + 10 + 40 * i + 12 * j : Nat)))
          (fun Q q => el_nil Q fun p H8 hp e hx => q _ _ ⟨p, rfl, hp, e, hx⟩) (fun v H8 hv Q q => ?_) fun v w H8 p8 hvw hp8 => ?_
        · obtain ⟨p, rfl, hp, e, hx⟩ := hv
          refine ev_is (ev_I0 (ev_I0 (ev_I0 (ev_tv rfl) fun _ _ => ev_tc) fun _ _ => ev_I ev_tc (fun _ _ => ev_tv rfl) (.inl ⟨by decide, by decide⟩)) fun _ _ => ev_I ev_tc (fun _ _ => ev_tv rfl) (.inl ⟨by decide, by decide⟩)) (congrArg V.int ints_at) Q fun H9 e9 => q _ _ ⟨p, rfl, hp, e.trans e9, e9 _ _ hx, rfl⟩
        obtain ⟨ro, rfl, hro7, e78, hro8, rfl⟩ := hvw
        have e78' := e78.trans (same_upd (o := HO.tup [V.ref ro, V.int ((at_ + 10 + 40 * i + 12 * j : Nat))]) hp8)
        have hro9 := same_upd (o := HO.tup [V.ref ro, V.int ((at_ + 10 + 40 * i + 12 * j : Nat))]) hp8 _ _ hro8
        generalize upd H8 p8 (.tup [V.ref ro, V.int ((at_ + 10 + 40 * i + 12 * j : Nat))]) = H9 at e78' hro9
        have hF : at_ + 10 + 40 * i + 12 * j ≤ 2000 := by omega
        generalize at_ + 10 + 40 * i + 12 * j = F at hF
        have e09 : Same H H9 := e05.trans (e57.trans e78')
        have s9 : ∀ {H'}, Same H9 H' → Same H H' := fun e => e09.trans e
        refine q_forRN (P := fun n => (j = 0 → n ≤ 2) ∧ (j ≠ 0 → 1 ≤ n ∧ n ≤ 3)) (evn_if (b := decide (V.int (j : Nat) = V.int 0)) (EvB.of' (ev_eq (ev_tv rfl) (fun _ _ => ev_tc) rfl))
          (fun hb H10 e10 => evn_mono (dr (m := 3) rfl (s9 e10) (fun _ _ => ev_tv rfl) (fun _ _ => ev_tc) (by omega) (by decide) (by decide)) fun n hn => ⟨fun _ => by omega, fun h => absurd ?_ h⟩)
          (fun hb H10 e10 => evn_mono (evn_add1 (dr (m := 3) rfl (s9 e10) (fun _ _ => ev_tv rfl) (fun _ _ => ev_tc) (by omega) (by decide) (by decide))) fun n ⟨m, hm, hn⟩ => ⟨fun h => absurd hb ?_, fun _ => by omega⟩)) fun n H10 hn e10 => ?_
        · have := of_decide_eq_true hb
          injection this with this
          omega
        · subst h
          decide
        have e010 := s9 e10
        refine q_forR1 (n := n) (ea_cons ev_tc fun _ _ => ea_nil) (by omega) (fun t σ H' => (∃ x12 x13 x14 x15 x16, σ = [some (.ref sa), some (.int at_), some (.bl lossy), some (.str (nmS r)), some (.ref ka), some (.ref tg), some (.int (i : Nat)), some (.str ⟨#[c]⟩), some (.ref ra), some (.int (j : Nat)), some (.ref ro), some (.int (F : Nat)), x12, x13, x14, x15, x16]) ∧ Same H7 H' ∧
          ∃ vs ds, H' ro = some (.lst vs) ∧ Dts H' vs (ds.map dDrop) ∧ ds.length = t ∧ ∀ d ∈ ds, okd (1 + r) d)
          (fun H' e => ⟨⟨_, _, _, _, _, rfl⟩, e78'.trans (e10.trans e), [], [], e _ _ (e10 _ _ hro9), .nil, rfl, fun d h => nomatch h⟩) (fun t σ' H11 ht q => ?_) (fun σ' H11 q => ?_)
        · obtain ⟨⟨x12, x13, x14, x15, x16, rfl⟩, e711, ws, ds, hws, hdd, hdl, hok⟩ := q
          have e011 : Same H H11 := e05.trans (e57.trans e711)
          refine q_asgN (evn_ix5 (K := K) fun H12 e12 => dr (a := F + 4 + 5 * t) (m := 5) rfl (e011.trans e12) (fun _ _ => ev_is (ev_I0 (ev_I0 (ev_tv rfl) fun _ _ => ev_tc) fun _ _ => ev_I ev_tc (fun _ _ => ev_tv rfl) (.inl ⟨by decide, by decide⟩)) (congrArg V.int ints_a2)) (fun _ _ => ev_tc) (by omega) (by decide) (by decide)) fun m H12 hm e12 => ?_
          refine s_appR (K := K) (xs := ws) (fun v H' => Same H12 H' ∧ ∃ p zs, v = .ref p ∧ H' p = some (.tup (zs.map V.str)) ∧ okd (1 + r) zs) (e12 _ _ hws) (ev_tv rfl) (fun H13 e13' Q q => ?_) (fun v H' h => h.1 _ _ (e12 _ _ hws)) (by rw [hdd.length, List.length_map]; omega) (fun v H13 hv => ?_)
          · have e013 : Same H H13 := e011.trans (e12.trans e13')
            refine eu_tupOfR (K := K) (R := fun zs => okd (1 + r) zs) (fun Q1 q1 => ?_) Q fun p H14 zs hzs e14 hp => q _ _ ⟨e13'.trans e14, p, zs, rfl, hp, hzs⟩
            refine ⟨_, rfl, (m : Nat), rfl, by omega, by omega, fun Dd hDd => ?_⟩
            refine lc_strs (E := E) (S := fun z => z ∈ tgs (1 + r)) hm (fun x => rfl) (fun i2 H14 hi2 e14 Q2 q2 => ?_) Dd hDd fun zs hzl hz2 H14 e14 hx => q1 Dd H14 zs ⟨by omega, hz2⟩ e14 hx
            have htg14 := e14 _ _ (e13' _ _ (e12 _ _ (e711 _ _ (e57 _ _ (e45 _ _ htg4)))))
            refine ⟨_, rfl, dr (a := F + 5 + 5 * t + i2) (m := ((tgs (1 + r)).map V.str).length) rfl (e013.trans e14) (fun _ _ => ev_is (ev_I0 (ev_I0 (ev_I0 (ev_tv rfl) fun _ _ => ev_tc) fun _ _ => ev_I ev_tc (fun _ _ => ev_tv rfl) (.inl ⟨by decide, by decide⟩)) fun _ _ => ev_tv rfl) (congrArg V.int ints_a3))
              (fun H' e' => ev_lenL (ev_tv rfl) (e' _ _ htg14)) (by omega) (by rw [List.length_map]; exact tgs_pos _) (by rw [List.length_map]; exact tgs_len _) _ fun x H15 hx e15 => ?_⟩
            rw [List.length_map] at hx
            exact ⟨tg, _, (x : Nat), .str (tgs (1 + r))[x], rfl, rfl, SqL.of (e15 _ _ htg14), atI_nat (by rw [List.getElem?_map, List.getElem?_eq_getElem hx]; rfl), q2 _ _ (List.getElem_mem hx) e15⟩
          · obtain ⟨e13', p, zs, rfl, hp, hzs⟩ := hv
            have htsm : Tsm H11 (upd H13 ro (.lst (ws ++ [.ref p]))) := (Tsm.same (e12.trans e13')).trans (Tsm.upd fun xs h => by rw [e13' _ _ (e12 _ _ hws)] at h; cases h)
            refine ⟨⟨_, _, _, _, _, rfl⟩, Same.mut (e711.trans (e12.trans e13')) hro7, _, ds ++ [zs], upd_same, ?_, by rw [List.length_append, hdl]; rfl, fun d hd => ?_⟩
            · rw [List.map_append]
              refine (hdd.drops_ts htsm).append (.cons (.tup (xs := zs.map V.str) ?_ (Dts.strs zs)) .nil)
              rw [upd_ne (fun z => by rw [z, e13' _ _ (e12 _ _ hws)] at hp; cases hp)]
              exact hp
            · rcases List.mem_append.mp hd with h | h
              · exact hok d h
              · rw [List.mem_singleton.mp h]
                exact hzs
        · obtain ⟨⟨x12, x13, x14, x15, x16, rfl⟩, e711, ws, ds, hws, hdd, hdl, hok⟩ := q
          have hvs11 := e711 _ _ hvs
          refine s_appR (K := K) (xs := vs) (fun v H' => Same H11 H' ∧ ∃ p, v = .ref p ∧ H' p = some (.tup ws)) hvs11 (ev_tv rfl) (fun H13 e13' Q q => ?_) (fun v H' h => h.1 _ _ hvs11) (by rw [hds.length, List.length_map]; omega) (fun v H13 hv => ?_)
          · exact ⟨_, rfl, ro, ws, rfl, .inl ⟨SqL.of (e13' _ _ hws), fun l hl => q _ _ ⟨e13'.trans (same_upd hl), l, rfl, upd_same⟩⟩⟩
          · obtain ⟨e13', p, rfl, hp⟩ := hv
            have htsm : Tsm H11 (upd H13 ra (.lst (vs ++ [.ref p]))) := (Tsm.same e13').trans (Tsm.upd fun xs h => by rw [e13' _ _ hvs11] at h; cases h)
            refine ⟨⟨_, _, _, _, _, _, _, _, rfl⟩, Same.mut (e57.trans (e711.trans e13')) hra5, _, rs ++ [ds], upd_same, ?_, by rw [List.length_append, hrl]; rfl, fun k rr hk => ?_⟩
            · rw [List.map_append]
              refine (hds.rowsL_ts ((Tsm.same e711).trans htsm)).append (.cons (.tup (xs := ws) ?_ (hdd.drops_ts htsm)) .nil)
              rw [upd_ne (fun z => by rw [z, e13' _ _ hvs11] at hp; cases hp)]
              exact hp
            · by_cases hk2 : k < rs.length
              · rw [List.getElem?_append_left hk2] at hk
                exact hrs k rr hk
              · rw [List.getElem?_append_right (by omega)] at hk
                have hk3 : k - rs.length = 0 := by
                  rcases Nat.eq_zero_or_pos (k - rs.length) with h | h
                  · exact h
                  · rw [List.getElem?_eq_none_iff.mpr (by show 1 ≤ _; omega)] at hk
                    cases hk
                rw [hk3] at hk
                cases hk
                have hkj : k = j := by omega
                subst hkj
                exact ⟨hok, fun h => by rw [hdl]; exact hn.1 h, fun h => by rw [hdl]; exact hn.2 h⟩
      · obtain ⟨⟨x9, x10, x11, x12, x13, x14, x15, x16, rfl⟩, e57, vs, rs, hvs, hds, hrl, hrs⟩ := q
        obtain ⟨r0, r1, rfl⟩ : ∃ r0 r1, rs = [r0, r1] := by
          match rs, hrl with
          | [a, b], _ => exact ⟨a, b, rfl⟩
        have p0 := hrs 0 r0 rfl
        have p1 := hrs 1 r1 rfl
        obtain ⟨v0, v1, rfl, d0, d1⟩ : ∃ v0 v1, vs = [v0, v1] ∧ Dt H7 v0 (dRow r0) ∧ Dt H7 v1 (dRow r1) := by
          cases hds with
          | cons h k =>
            cases k with
            | cons h2 k =>
              cases k
              exact ⟨_, _, rfl, h, h2⟩
        have e07 : Same H H7 := e05.trans e57
        have ksl : ks.length = i := by
          have h1 : (kn ks).length = ks.length := List.length_map _
          rw [← h1, dk.names, List.length_take, ab_len hr4]
          have h2 : i < (ab.take (1 + r)).length := (List.getElem?_eq_some_iff.mp hz).1
          rw [ab_len hr4] at h2
          omega
        have kvl : kv.length = ks.length := by rw [hdk.length]; exact List.length_map _
        have p1l := p1.2.2 (by decide)
        have p0l := p0.2.1 rfl
        have orl := oRow_len lossy
        have nxl := nxt_len (1 + r) (i + 1)
        refine q_asgD (d := dRow (nxt (1 + r) (i + 1))) (evd_if (b := decide (((i : Nat) : Int) + 1 < ((nmS r).length : Nat))) (EvB.of' (ev_I0 (ev_I0 (ev_tv rfl) fun _ _ => ev_tc) fun _ _ => ev_lenS (ev_tv rfl) (by show (nmS r).cps.size ≤ _; rw [nm_size r hr4]; omega))) (fun hb H' e' => ?_) (fun hb H' e' => ?_)) fun v2 H8 e78 d2 => ?_
        · have h1 := of_decide_eq_true hb
          have h2 : ((nmS r).length : Nat) = 1 + r := nm_size r hr4
          rw [h2] at h1
          have h3 : i + 1 < (ab.take (1 + r)).length := by rw [ab_len hr4]; omega
          obtain ⟨c', hc', hy⟩ := nm_cp hr4 (List.getElem?_eq_getElem h3)
          rw [nxt_some (List.getElem?_eq_getElem h3), hy]
          exact evd_tup1 (evd_tup1 (evd_of (ev_ixS (i := i + 1) (ev_tv rfl) (fun _ _ => ev_is (ev_I0 (ev_tv rfl) fun _ _ => ev_tc) (congrArg V.int (by omega))) (by rw [h2]; omega) hc') (.str _)))
        · have h1 := of_decide_eq_false hb
          have h2 : ((nmS r).length : Nat) = 1 + r := nm_size r hr4
          rw [h2] at h1
          rw [nxt_none (List.getElem?_eq_none_iff.mpr (by rw [ab_len hr4]; omega))]
          exact evd_tup0
        refine q_asgD (d := .tuple (r1.map dDrop ++ (nxt (1 + r) (i + 1)).map dDrop ++ (oRow lossy).map dDrop)) (evd_cat (evd_cat (evd_of (ev_ixL (K := K) (i := 1) (ev_tv rfl) (fun _ _ => ev_tc) (e78 _ _ hvs) rfl) (d1.go e78)) (fun H' e' => evd_of (ev_tv rfl) (d2.go e')) (by rw [List.length_map, List.length_map]; omega)) (fun H' e' => evd_if (b := lossy) (fun Q q => ⟨_, rfl, _, rfl, q _ (Same.refl _)⟩) (fun hb H2 e2 => ?_) (fun hb H2 e2 => ?_)) (by rw [List.length_append, List.length_map, List.length_map, List.length_map]; omega)) fun v3 H9 e89 d3 => ?_
        · subst hb
          exact evd_tup1 (evd_tup1 (evd_of ev_tc (.str _)))
        · subst hb
          exact evd_tup0
        obtain ⟨tn, htn⟩ : ∃ tn : Row, tn = r1 ++ nxt (1 + r) (i + 1) ++ oRow lossy := ⟨_, rfl⟩
        have htn2 : r1.map dDrop ++ (nxt (1 + r) (i + 1)).map dDrop ++ (oRow lossy).map dDrop = tn.map dDrop := by rw [htn, List.map_append, List.map_append]
        rw [htn2] at d3
        have htl : 1 ≤ tn.length ∧ tn.length ≤ 5 := by
          rw [htn, List.length_append, List.length_append]
          omega
        refine q_asgN (dr (a := at_ + 260 + i) (m := (tn.map dDrop).length) rfl (e07.trans (e78.trans e89)) (fun _ _ => ev_is (ev_I0 (ev_I0 (ev_tv rfl) fun _ _ => ev_tc) fun _ _ => ev_tv rfl) (congrArg V.int (by omega))) (fun H' e' => ev_lenDt (ev_tv rfl) (d3.go e')) (by omega) (by rw [List.length_map]; omega) (by rw [List.length_map]; omega)) fun cut H10 hcut e910 => ?_
        rw [List.length_map] at hcut
        have e710 := e78.trans (e89.trans e910)
        refine s_dputD (a := ka) (k := .inr ⟨#[c]⟩) (kvs := kv) (d := dRows (r0, tn.drop cut ++ tn.take cut)) ?_ (fun _ _ => ev_tv rfl) (fun _ _ => ev_tv rfl) (e710 _ _ (e57 _ _ (e45 _ _ hkv))) ?_ fun v4 H11 e1011 d4 => ?_
        · have z := evd_tup2 (σ := [some (.ref sa), some (.int at_), some (.bl lossy), some (.str (nmS r)), some (.ref ka), some (.ref tg), some (.int (i : Nat)), some (.str ⟨#[c]⟩), some (.ref ra), x9, x10, x11, some v3, x13, some v2, some (.int (cut : Nat)), x16])
            (evd_of (ev_ixL (K := K) (i := 0) (ev_tv (i := 8) rfl) (fun _ _ => ev_tc) (e710 _ _ hvs) rfl) (d0.go e710)) (fun H' e' => evd_cat (K := K) (evd_from (K := K) (evd_of (ev_tv (i := 12) rfl) (d3.go (e910.trans e'))) (fun _ _ => ev_tv (i := 15) rfl)) (fun H2 e2 => evd_upto (K := K) (evd_of (ev_tv (i := 12) rfl) (d3.go (e910.trans (e'.trans e2)))) (fun _ _ => ev_tv (i := 15) rfl)) (by rw [List.length_drop, List.length_take, List.length_map]; omega))
          rw [← List.map_drop, ← List.map_take, ← List.map_append] at z
          exact z
        · rw [kvl]
          omega
        have z_no : (⟨#[c]⟩ : Str) ∉ kn ks := by
          rw [dk.names]
          exact not_in_take (ab_nodup _) hz
        have v_no : valV kv (.inr ⟨#[c]⟩) = none := hdk.none (kd_none z_no)
        have e011 : Same H H11 := e07.trans (e710.trans e1011)
        have hka11 := e1011 _ _ (e710 _ _ (e57 _ _ (e45 _ _ hkv)))
        have tsm : Tsm H11 (upd H11 ka (.dK (putK kv (.inr ⟨#[c]⟩) v4))) := Tsm.upd fun xs h => by rw [hka11] at h; cases h
        refine ⟨⟨_, _, _, _, _, _, _, _, _, _, _, rfl⟩, Same.mut e011 hka, ?_, _, ks ++ [(⟨#[c]⟩, (r0, tn.drop cut ++ tn.take cut))], upd_same, ?_, ⟨?_, fun p hp => ?_, fun j x rr y hj hy => ?_⟩⟩
        · rw [upd_ne ne_tg]
          exact e1011 _ _ (e710 _ _ (e57 _ _ (e45 _ _ htg4)))
        · rw [putK_new _ v_no]
          show Dk _ _ ((ks ++ [_]).map _)
          rw [List.map_append]
          have z := Dk.snoc (k := ⟨#[c]⟩) d4 (hdk.go (e45.trans (e57.trans (e710.trans e1011))))
          have z2 := Dk.kd_ts (ks := ks ++ [(⟨#[c]⟩, (r0, tn.drop cut ++ tn.take cut))]) tsm (by
            show Dk _ _ ((ks ++ [_]).map _)
            rw [List.map_append]
            exact z)
          rw [putK_new _ v_no] at z2
          show Dk _ _ _
          have z3 : kd (ks ++ [(⟨#[c]⟩, (r0, tn.drop cut ++ tn.take cut))]) = _ := List.map_append
          rw [z3] at z2
          exact z2
        · show ((ks ++ [_]).map _) = _
          rw [List.map_append]
          have e1 : ks.map (fun p => p.1) = (ab.take (1 + r)).take i := dk.names
          show ks.map (fun p => p.1) ++ [_] = _
          rw [e1, take_snoc hz]
        · refine (List.mem_append.mp hp).elim (fun h => ?_) (fun h => ?_)
          · exact dk.rows p h
          · rw [List.mem_singleton.mp h]
            have lt : (tn.drop cut ++ tn.take cut).length = tn.length := by rw [List.length_append, List.length_drop, List.length_take]; omega
            refine ⟨p0l, by rw [lt]; exact htl.1, by rw [lt]; exact htl.2, p0.1, fun d hd => ?_⟩
            have hd2 : d ∈ tn := (List.mem_append.mp hd).elim List.mem_of_mem_drop List.mem_of_mem_take
            rw [htn] at hd2
            rcases List.mem_append.mp hd2 with h | h
            · refine (List.mem_append.mp h).elim (fun h => ?_) (fun h => ?_)
              · exact p1.1 d h
              · exact nxt_ok d h
            · exact oRow_ok d h
        · by_cases hj2 : j < ks.length
          · rw [List.getElem?_append_left hj2] at hj
            exact dk.next j x rr y hj hy
          · rw [List.getElem?_append_right (by omega)] at hj
            have hk3 : j - ks.length = 0 := by
              rcases Nat.eq_zero_or_pos (j - ks.length) with h | h
              · exact h
              · rw [List.getElem?_eq_none_iff.mpr (by show 1 ≤ _; omega)] at hj
                cases hj
            rw [hk3] at hj
            cases hj
            have hji : j = i := by omega
            subst hji
            have hm : [y] ∈ tn := by
              rw [htn]
              refine List.mem_append_left _ (List.mem_append_right _ ?_)
              rw [nxt_some hy]
              exact List.mem_cons_self
            show [y] ∈ tn.drop cut ++ tn.take cut
            rw [← List.take_append_drop cut tn] at hm
            exact (List.mem_append.mp hm).elim (List.mem_append_right _) (List.mem_append_left _)
    · obtain ⟨⟨x6, x7, x8, x9, x10, x11, x12, x13, x14, x15, x16, rfl⟩, e04, htg4, kv, ks, hkv, hdk, dk⟩ := q
      rw [nm_size r hr4] at dk
      exact s_ret (ev_tv rfl) fun H' e => k ka kv ks r H' hr4 hka (e04.trans e) (e _ _ hkv) (hdk.go e) dk
end
end Bc

namespace Bc
open PySem L2 PyProof.Rows StX
theorem valV_no {kvs : List (Key × V)} {k : Key} : k ∉ kvs.map (fun p => p.1) → valV kvs k = none := by
  induction kvs with
  | nil => intro _; rfl
  | cons p r ih =>
    intro h
    obtain ⟨j, v⟩ := p
    rw [valV_cons, if_neg (fun e => h (by rw [e]; exact List.mem_cons_self))]
    exact ih fun m => h (List.mem_cons_of_mem _ m)
theorem merge_nd : ∀ {more acc : List (Key × V)}, ((acc ++ more).map fun p => p.1).Nodup → mergeK acc more = acc ++ more
  | [], acc, _ => by rw [List.append_nil]; rfl
  | (k, v) :: r, acc, h => by
    have hk : k ∉ acc.map (fun p => p.1) := fun m => by
      rw [List.map_append] at h
      exact (List.nodup_append.mp h).2.2 k m k (by rw [List.map_cons]; exact List.mem_cons_self) rfl
    show mergeK (putK acc k v) r = _
    rw [putK_new v (valV_no hk)]
    have e : acc ++ (k, v) :: r = (acc ++ [(k, v)]) ++ r := by rw [List.append_assoc]; rfl
    rw [e] at h ⊢
    exact merge_nd h
theorem merge_nd0 {kvs : List (Key × V)} (h : (kvs.map fun p => p.1).Nodup) : mergeK [] kvs = kvs := merge_nd (acc := []) h
theorem paired_append {α β : Type} {F : α → β → Prop} : ∀ {a c : List α} {b d : List β}, Paired F a b → Paired F c d → Paired F (a ++ c) (b ++ d)
  | _, _, _, _, .nil, h => h
  | _, _, _, _, .cons h r, k => .cons h (paired_append r k)
theorem paired_rev {α β : Type} {F : α → β → Prop} : ∀ {a : List α} {b : List β}, Paired F a b → Paired F a.reverse b.reverse
  | _, _, .nil => .nil
  | _, _, .cons h r => by
    rw [List.reverse_cons, List.reverse_cons]; exact paired_append (paired_rev r) (.cons h .nil)
section
variable {K : PySem.W.Frag} {σ : L2.St} {H : Hp} {ta tb te : TE} {D : Ends} {u : TS}
/-- {k1: .., k2: ..} -/
theorem ek_disp2 {k1 k2 : Str} {t1 t2 : TE} {v1 v2 : V} (h1 : ∀ H', Same H H' → Ev t1 σ H' v1) (h2 : ∀ H', Same H H' → Ev t2 σ H' v2) (ne : k1 ≠ k2) : EvK (tDisp [(tC (.str k1), t1), (tC (.str k2), t2)]) σ H [(.inr k1, v1), (.inr k2, v2)] := fun Q q p hp =>
  h1 _ (same_upd hp) _ fun H1 e1 => h2 _ ((same_upd hp).trans e1) _ fun H2 e2 => ⟨e2 _ _ (e1 _ _ upd_same), [(.inr k1, v1), (.inr k2, v2)], rfl, (show 2 ≤ 15 by decide), by
    rw [merge_nd0 (by simpa using ne)]
    exact q p _ hp (Same.mut (((same_upd hp).trans e1).trans e2) hp) upd_same⟩
theorem ek_disp1 {k1 : Str} {t1 : TE} {v1 : V} (h1 : ∀ H', Same H H' → Ev t1 σ H' v1) : EvK (tDisp [(tC (.str k1), t1)]) σ H [(.inr k1, v1)] := fun Q q p hp =>
  h1 _ (same_upd hp) _ fun H1 e1 => ⟨e1 _ _ upd_same, [(.inr k1, v1)], rfl, (show 1 ≤ 15 by decide), q p _ hp (Same.mut ((same_upd hp).trans e1) hp) upd_same⟩
/-- list(d), d a dict -/
abbrev rListDK : List V → Hp → VK → Prop := fun xs H Q => ∃ (a : Addr) (kvs : List (Key × V)), xs = [.ref a] ∧ Rd H a (.dK kvs) ∧ ∀ p, H p = none → Q (.ref p) (upd H p (.lst (kvs.map fun kv => kV kv.1)))
theorem el_listD {a : Addr} {kv : List (Key × V)} {zs : List Str} (ha : Ev ta σ H (.ref a)) (h : H a = some (.dK kv)) (hk : kv.map (·.1) = zs.map Sum.inr) : EvL (tCB rListDK (tCons ta tNil)) σ H (zs.map V.str) := fun Q q =>
  ha _ fun H1 e1 => ⟨a, kv, rfl, .inl (e1 _ _ h), fun p hp => q p _ (e1.free hp) (e1.trans (same_upd hp)) (by
    rw [upd_same]
    have e2 : (kv.map fun p => kV p.1) = (kv.map (·.1)).map kV := by rw [List.map_map]; rfl
    rw [e2, hk, List.map_map]
    rfl)⟩
theorem el_sortS {os : List Str} (h : EvL ta σ H (os.map V.str)) (hl : os.length < 64) : EvL (tCB (rSortedS K) (tCons ta tNil)) σ H ((srt os).map V.str) := fun Q q =>
  h _ fun c H1 hc e1 hx => ⟨c, os, rfl, SqL.of hx, hl, fun ys p h1 h2 h3 => by
    have e := srt_is h1 h2
    subst e
    exact q p _ (e1.free h3) (e1.trans (same_upd h3)) upd_same⟩
/-- l[r], r some place -/
theorem evx_ix {xs : List V} (h : EvL ta σ H xs) (hn : ∀ H', Same H H' → EvN tb σ H' fun r => r < xs.length) (Q : VK) (q : ∀ v H', v ∈ xs → Same H H' → Q v H') : tOp (rIxL K) ta tb σ H Q :=
  h _ fun p H1 hp e1 hx => hn H1 e1 _ fun r H2 hr e2 => ⟨p, xs, (r : Nat), xs[r], rfl, rfl, SqL.of (e2 _ _ hx), atI_nat (List.getElem?_eq_getElem hr), q _ _ (List.getElem_mem hr) (e1.trans e2)⟩
/-- list(d.items()) -/
theorem el_items {a : Addr} {kvs : List (Key × V)} (ha : Ev ta σ H (.ref a)) (h : H a = some (.dK kvs)) (Q : VK) (q : ∀ p H' ts, H p = none → Same H H' → H' p = some (.lst (ts.map V.ref)) → Paired (fun t kv => H' t = some (.tup [kV kv.1, kv.2])) ts kvs → Q (.ref p) H') : LiI.tListItems ta σ H Q :=
  ha _ fun H1 e1 => ⟨a, kvs, rfl, e1 _ _ h, fun H' p ts e2 hp _ _ hx hw => q p H' ts (e1.free hp) (e1.trans e2) hx hw⟩
/-- dict(pairs) -/
theorem ek_dictP {kvs : List (Key × V)} (h : ∀ Q : VK, (∀ p H' ts, H p = none → Same H H' → H' p = some (.lst (ts.map V.ref)) → Paired (fun t kv => H' t = some (.tup [kV kv.1, kv.2])) ts kvs → Q (.ref p) H') → ta σ H Q) :
    EvK (tCB (fun xs H Q => ∃ (a : Addr) (ps : List Addr) (kvs : List (Key × V)), xs = [.ref a] ∧ SqL K H a (ps.map V.ref) ∧ Paired (fun p kv => SqT K H p [kV kv.1, kv.2]) ps kvs ∧ ∀ p, H p = none → Q (.ref p) (upd H p (.dK (mergeK [] kvs)))) (tCons ta tNil)) σ H (mergeK [] kvs) := fun Q q =>
  h _ fun p H1 ts hp e1 hx hw => ⟨p, ts, kvs, rfl, SqL.of hx, L2.Paired.mapP hw fun _ _ h => SqT.of h, fun p' hp' => q p' _ (e1.free hp') (e1.trans (same_upd hp')) upd_same⟩
end
section
variable {P : Program} {w : World} {K : PySem.W.Frag} {mg : Str → Option Value} {base : Heap} {ad : Ad}
/-! ### _law_inlets -/
def insD (y : Str) : List (Key × V) := [(.inr "i", .str "a"), (.inr "j", .str y)]
def spLInlets (K : PySem.W.Frag) : Sp := fun vs H Q _ => ∃ (s : Addr) (ns : List Int) (at_ : Nat) (a : Addr) (kv : List (Key × V)) (zs : List Str), vs = [.ref s, .int at_, .ref a] ∧ SqL K H s (ns.map V.int) ∧ ns.length ≤ 63 ∧ at_ ≤ 1000 ∧ H a = some (.dK kv) ∧ kv.map (·.1) = zs.map Sum.inr ∧ 1 ≤ zs.length ∧ zs.length ≤ 60 ∧
  ∀ p y H', y ∈ zs → H p = none → Same H H' → H' p = some (.dK (insD y)) → Q (.ref p) H'
theorem scLInlets : FnScope ["script", "at", "knots"] ["script", "at", "knots"] (defScope sLInlets) := ⟨rfl, rfl, rfl, by decide +kernel, rfl, by decide +kernel, by decide +kernel⟩
theorem ok_linlets (T : Tx K mg ad) : FnOk P w K mg base CX0 3 ad.lInlets ad.dLInlets ["script", "at", "knots"] (spLInlets K) := by
  have G : FnOk P w K mg base CX0 2 ad.draw ad.dDraw ["script", "at", "many"] (spDraw K) := ok_draw T
  have b := T.fDraw.binds (ps := ["script", "at", "many"]) fun _ _ _ _ _ _ us hl => match us, hl with | [_, _, _], _ => rfl
  refine T.fLInlets.ok scLInlets (fun vs H Q E h => ?_) (fun cdv A outer s H vs Q E hr h => ?_)
  · obtain ⟨s, ns, at_, a, kv, zs, rfl, _⟩ := h
    rfl
  · obtain ⟨sa, ns, at_, a, kv, zs, rfl, hS, hl, hat, ha, hk, h1, h60, k⟩ := h
    refine ⟨_, pss_one (ps_ret (pe_disp (pps_cons pe_str pe_str (pps_cons pe_str (pe_ix ix_list (pe_callB cr_sortedS (by rfl) T.sorted b_sorted (pa_cons (pe_callTy (call_listD rfl) (by rfl) T.list b_list (pa_cons (pv 2) pa_nil)) pa_nil)) (pe_call G hr (by rfl) T.gDraw T.fDraw.kp b .nil pass0 (pa_cons (pv 0) (pa_cons (pv 1) (pa_cons (pe_callB call_lenD (by rfl) T.len PySem.boot_len (pa_cons (pv 2) pa_nil)) pa_nil)))) (fun _ _ => rfl)) pps_nil)) (by rfl) (by rfl) (by decide) (by decide))), ?_⟩
    have hm : kv.length = zs.length := by
      have := congrArg List.length hk
      rw [List.length_map, List.length_map] at this
      exact this
    refine fun p hp => ?_
    have s1 := same_upd (o := HO.dK []) hp
    have dr : ∀ H1, Same H H1 → EvN (tCall (spDraw K) [] E0 (tCons (tVar 0) (tCons (tVar 1) (tCons (tCB (fun xs H Q => ∃ a kvs, xs = [V.ref a] ∧ H a = some (.dK kvs) ∧ Q (.int (kvs.length : Nat)) H) (tCons (tVar 2) tNil)) tNil)))) [some (.ref sa), some (.int at_), some (.ref a)] H1 fun r => r < ((srt zs).map V.str).length := fun H1 e1 => by
      refine evn_mono (evn_draw (many := kv.length) (ea_cons (ev_tv rfl) fun H2 e2 => ea_cons (ev_tv rfl) fun H3 e3 => ea_cons (ev_lenD (ev_tv rfl) (e3 _ _ (e2 _ _ (e1 _ _ ha)))) fun _ _ => ea_nil) (Same.seqL e1 hS) hl (by omega) (by omega) (by omega)) fun n hn => ?_
      rw [List.length_map, (srt_perm zs).length_eq]
      omega
    refine evx_ix (K := K) (el_sortS (K := K) (el_listD (ev_tv rfl) (s1 _ _ ha) hk) (by omega)) (fun H1 e1 => dr H1 (s1.trans e1)) _ fun v H1 hv e1 => ?_
    obtain ⟨y, hy, rfl⟩ := List.mem_map.mp hv
    refine ⟨e1 _ _ upd_same, insD y, rfl, (show 2 ≤ 15 by decide), ?_⟩
    rw [merge_nd0 (by show ([.inr "i", .inr "j"] : List Key).Nodup; decide +kernel)]
    exact k p y _ ((srt_perm zs).mem_iff.mp hy) hp (Same.mut (s1.trans e1) hp) upd_same
end
end Bc

/-! facts of the drawn nets, in data -/
namespace Bc
open PySem L2 PyProof.Rows StX
/-! ### data of texts -/
theorem lay_strs {zs : List Str} : (∀ x ∈ zs, PyData.strOk x = true) → PyData.canLayAll0 (zs.map PyData.str) = true := by
  induction zs with
  | nil => intro _; rfl
  | cons z r ih =>
    intro h
    show (PyData.strOk z && PyData.canLayAll0 (r.map PyData.str)) = true
    rw [h z List.mem_cons_self, ih fun x hx => h x (List.mem_cons_of_mem _ hx)]
    rfl
theorem lay_map {α : Type} {f : α → PyData} {l : List α} (h : ∀ x ∈ l, (f x).canLay0 = true) : PyData.canLayAll0 (l.map f) = true := by
  induction l with
  | nil => rfl
  | cons z r ih =>
    show ((f z).canLay0 && PyData.canLayAll0 (r.map f)) = true
    rw [h z List.mem_cons_self, ih fun x hx => h x (List.mem_cons_of_mem _ hx)]
    rfl
theorem depth_map {α : Type} {f : α → PyData} {n : Nat} {l : List α} (h : ∀ x ∈ l, (f x).depth ≤ n) : PyData.depthAll (l.map f) ≤ n := by
  induction l with
  | nil => exact Nat.zero_le _
  | cons z r ih =>
    show max (f z).depth (PyData.depthAll (r.map f)) ≤ n
    have h1 := h z List.mem_cons_self
    have h2 := ih fun x hx => h x (List.mem_cons_of_mem _ hx)
    omega
theorem depth_strs (zs : List Str) : PyData.depthAll (zs.map PyData.str) ≤ 0 := depth_map fun _ _ => Nat.le_refl _
theorem lay_drop {d : Drop} (h : ∀ x ∈ d, PyData.strOk x = true) : (dDrop d).canLay0 = true := lay_strs h
theorem depth_drop (d : Drop) : (dDrop d).depth ≤ 1 := Nat.succ_le_succ (depth_strs d)
theorem lay_row {r : Row} (h : ∀ d ∈ r, ∀ x ∈ d, PyData.strOk x = true) : (dRow r).canLay0 = true := lay_map fun d hd => lay_drop (h d hd)
theorem depth_row (r : Row) : (dRow r).depth ≤ 2 := Nat.succ_le_succ (depth_map fun d _ => depth_drop d)
theorem lay_rows {r : Rows} (h1 : ∀ d ∈ r.1, ∀ x ∈ d, PyData.strOk x = true) (h2 : ∀ d ∈ r.2, ∀ x ∈ d, PyData.strOk x = true) : (dRows r).canLay0 = true := by
  show ((dRow r.1).canLay0 && ((dRow r.2).canLay0 && true)) = true
  rw [lay_row h1, lay_row h2]
  rfl
theorem depth_rows (r : Rows) : (dRows r).depth ≤ 3 := by
  have h1 := depth_row r.1
  have h2 := depth_row r.2
  show max (dRow r.1).depth (max (dRow r.2).depth 0) + 1 ≤ 3
  omega
theorem shaped_of {d : PyData} {n : Nat} (h : d.canLay0 = true) (k : d.depth ≤ n) (hn : n ≤ 64 := by decide) : SeqAt.shaped d = true := by
  show (d.canLay0 && decide (d.depth ≤ 64)) = true
  rw [h, decide_eq_true (Nat.le_trans k hn)]
  rfl
/-! ### == of data -/
theorem eqvAll_map {α : Type} [DecidableEq α] {f : α → PyData} (h : ∀ a b, PyData.eqv (f a) (f b) = decide (a = b)) : ∀ xs ys : List α, PyData.eqvAll (xs.map f) (ys.map f) = decide (xs = ys)
  | [], [] => rfl
  | [], _ :: _ => rfl
  | _ :: _, [] => rfl
  | x :: xs, y :: ys => by
    show (PyData.eqv (f x) (f y) && PyData.eqvAll (xs.map f) (ys.map f)) = _
    rw [h x y, eqvAll_map h xs ys]
    by_cases e : x = y
    · subst e
      simp
    · simp [e]
theorem eqv_str (a b : Str) : PyData.eqv (.str a) (.str b) = decide (a = b) := by
  show (a == b) = _
  by_cases e : a = b
  · subst e
    simp
  · simp [e]
theorem eqv_drop (a b : Drop) : PyData.eqv (dDrop a) (dDrop b) = decide (a = b) := eqvAll_map eqv_str a b
theorem eqv_row (a b : Row) : PyData.eqv (dRow a) (dRow b) = decide (a = b) := eqvAll_map eqv_drop a b
theorem eqv_rows (a b : Rows) : PyData.eqv (dRows a) (dRows b) = decide (a = b) := by
  show (PyData.eqv (dRow a.1) (dRow b.1) && (PyData.eqv (dRow a.2) (dRow b.2) && true)) = _
  rw [eqv_row, eqv_row]
  obtain ⟨a1, a2⟩ := a
  obtain ⟨b1, b2⟩ := b
  by_cases e1 : a1 = b1
  · by_cases e2 : a2 = b2
    · subst e1 e2
      simp
    · simp [e2]
  · simp [e1]
theorem eqDK_refl {ds : List (Str × PyData)} (hn : (ds.map fun p => p.1).Nodup) (h : ∀ p ∈ ds, p.2.canLay0 = true) : eqDK ds ds = true := by
  unfold eqDK
  simp only [beq_self_eq_true, Bool.true_and]
  rw [List.all_eq_true]
  intro p hp
  obtain ⟨k, d⟩ := p
  have e : ds.lookup k = some d := by
    clear h
    induction ds with
    | nil => cases hp
    | cons q r ih =>
      obtain ⟨j, e⟩ := q
      rw [List.lookup_cons]
      rw [List.map_cons, List.nodup_cons] at hn; rcases List.mem_cons.mp hp with h | h
      · injection h with h1 h2
        subst h1 h2
        simp
      · have ne : ¬ k = j := fun z => hn.1 (List.mem_map.mpr ⟨(k, d), h, z⟩)
        have : (k == j) = false := by simpa using ne
        rw [this]
        exact ih hn.2 h
  dsimp only
  rw [e]
  exact SeqAt.eqv_refl d (h _ hp)
theorem eqDK_ne {da db : List (Str × PyData)} {k : Str} {d : PyData} (h : (k, d) ∈ da) (hn : ∀ e, db.lookup k = some e → PyData.eqv d e = false) : eqDK da db = false := by
  unfold eqDK
  refine Bool.and_eq_false_iff.mpr (.inr (List.all_eq_false.mpr ⟨(k, d), h, ?_⟩))
  dsimp only
  cases e : db.lookup k with
  | none => simp
  | some e' => simp [hn e' e]
theorem eqDK_len {da db : List (Str × PyData)} (h : da.length ≠ db.length) : eqDK da db = false := by
  unfold eqDK
  have : (da.length == db.length) = false := by simpa using h
  rw [this]
  rfl
/-! ### ascending -/
theorem srtD_is {ds es : List (Str × PyData)} (h1 : srt (ds.map fun p => p.1) = es.map fun p => p.1) (h2 : ∀ p ∈ es, ds.lookup p.1 = some p.2) : srtD ds = es := by
  unfold srtD
  rw [h1, List.map_map]
  have : ∀ l : List (Str × PyData), (∀ p ∈ l, ds.lookup p.1 = some p.2) → l.map ((fun z => (z, (ds.lookup z).getD PyData.none)) ∘ fun p => p.1) = l := by
    intro l
    induction l with
    | nil => intro _; rfl
    | cons p r ih =>
      intro h
      rw [List.map_cons, ih fun q hq => h q (List.mem_cons_of_mem _ hq)]
      obtain ⟨a, b⟩ := p
      show (a, (ds.lookup a).getD .none) :: r = _
      have h' := h (a, b) List.mem_cons_self
      have h'' : ds.lookup a = some b := h'
      rw [h'']
      rfl
  exact this es h2
theorem lookup_nd {α : Type} : ∀ {ds : List (Str × α)} {k : Str} {d : α}, (ds.map fun p => p.1).Nodup → (k, d) ∈ ds → ds.lookup k = some d
  | [], _, _, _, h => nomatch h
  | (j, e) :: r, k, d, hn, h => by
    rw [List.lookup_cons]
    rw [List.map_cons, List.nodup_cons] at hn; rcases List.mem_cons.mp h with h | h
    · injection h with h1 h2
      subst h1 h2
      simp
    · have ne : ¬ k = j := fun z => hn.1 (List.mem_map.mpr ⟨(k, d), h, z⟩)
      have : (k == j) = false := by simpa using ne
      rw [this]
      exact lookup_nd hn.2 h
theorem srt_of_sorted {l l' : List Str} (hp : l.Perm l') (hs : sortedS l' = true) : srt l = l' := (srt_is hp.symm hs).symm
theorem ab_sorted : ∀ n, sortedS (ab.take n) = true
  | 0 => by decide +kernel
  | 1 => by decide +kernel
  | 2 => by decide +kernel
  | 3 => by decide +kernel
  | n + 4 => by
    rw [List.take_of_length_le (by show 4 ≤ n + 4; omega)]
    decide +kernel
/-! ### nets of the law -/
structure GRows (n : Nat) (r : Rows) : Prop where
  l1 : r.1.length ≤ 12
  l2 : 1 ≤ r.2.length
  l3 : r.2.length ≤ 12
  ok1 : ∀ d ∈ r.1, okd n d
  ok2 : ∀ d ∈ r.2, okd n d
structure GK (n : Nat) (ks : Knots) : Prop where
  pos : 1 ≤ n
  le : n ≤ 4
  perm : (kn ks).Perm (ab.take n)
  rows : ∀ p ∈ ks, GRows n p.2
  next : ∀ (j : Nat) (x : Str) (r : Rows) (y : Str), (ab.take n)[j]? = some x → (x, r) ∈ ks → (ab.take n)[j + 1]? = some y → [y] ∈ r.2
structure GI (n : Nat) (is : Ins) : Prop where
  nd : (inn is).Nodup
  sub : ∀ x ∈ inn is, x ∈ (["i", "j", "k"] : List Str)
  a : ∃ x : Str, (x, ("a" : Str)) ∈ is
  leads : ∀ p ∈ is, p.2 ∈ ab.take n
structure GO (os : List Str) : Prop where
  nd : os.Nodup
  sub : ∀ x ∈ os, x ∈ (["o", "p", "q"] : List Str)
  o : ("o" : Str) ∈ os
  p : ("p" : Str) ∈ os
theorem nd_ab {n : Nat} {ks : Knots} (g : GK n ks) : (kn ks).Nodup := g.perm.nodup_iff.mpr (ab_nodup n)
theorem kn_ab {n : Nat} {ks : Knots} (g : GK n ks) {x : Str} (h : x ∈ kn ks) : x ∈ ab := List.mem_of_mem_take (g.perm.mem_iff.mp h)
theorem len_ab {n : Nat} {ks : Knots} (g : GK n ks) : ks.length = n := by
  have h := g.perm.length_eq
  unfold kn at h
  rw [List.length_map, List.length_take] at h
  have h2 : ab.length = 4 := rfl
  have := g.le
  omega
theorem all10 : ∀ z ∈ ab ++ (["o", "p", "q"] : List Str) ++ (["i", "j", "k"] : List Str), okName z = true ∧ z.length ≤ 1000 ∧ PyData.strOk z = true := by decide +kernel
theorem disj1 : ∀ z ∈ ab, ∀ y ∈ (["o", "p", "q"] : List Str), z ≠ y := by decide +kernel
theorem disj2 : ∀ z ∈ ab ++ (["o", "p", "q"] : List Str), ∀ y ∈ (["i", "j", "k"] : List Str), z ≠ y := by decide +kernel
theorem met_ok {n : Nat} {ks : Knots} {is : Ins} (g : GK n ks) (i : GI n is) : Met ks is := by
  intro zs c
  have key : ∀ (j : Nat) (x : Str), (ab.take n)[j]? = some x → x ∈ zs := by
    intro j
    induction j with
    | zero =>
      intro x hx
      obtain ⟨z, hz⟩ := i.a
      have h := c.start _ hz
      have e : (ab.take n)[0]? = some ("a" : Str) := by
        rw [List.getElem?_take_of_lt g.pos]
        rfl
      rw [e] at hx
      cases hx
      exact h
    | succ j ih =>
      intro y hy
      have hj : j < (ab.take n).length := Nat.lt_of_succ_lt (List.getElem?_eq_some_iff.mp hy).1
      have hx := ih _ (List.getElem?_eq_getElem hj)
      have hm : (ab.take n)[j] ∈ kn ks := g.perm.mem_iff.mpr (List.getElem_mem hj)
      obtain ⟨⟨x', r⟩, h1, h2⟩ := List.mem_map.mp hm
      have h2' : x' = (ab.take n)[j] := h2
      have h3 := g.next j x' r y (by rw [h2']; exact List.getElem?_eq_getElem hj) h1 hy
      refine c.next x' r h1 (by rw [h2']; exact hx) y ?_
      unfold succ
      rw [List.mem_filter]
      exact ⟨List.mem_flatten.mpr ⟨_, h3, List.mem_cons_self⟩, decide_eq_true (g.perm.mem_iff.mpr (List.mem_of_getElem? hy))⟩
  intro x hx
  obtain ⟨j, hj, e⟩ := List.mem_iff_getElem.mp (g.perm.mem_iff.mp hx)
  exact key j x (by rw [List.getElem?_eq_getElem hj, e])
theorem ok_net {n : Nat} {ks : Knots} {is : Ins} {os : List Str} (g : GK n ks) (i : GI n is) (o : GO os) : OkNet ks is os := by
  have hl := len_ab g
  have h1 := g.pos
  have h4 := g.le
  have il : (inn is).length = is.length := List.length_map _
  have i3 : is.length ≤ 3 := by rw [← il]; exact nodup_len i.nd i.sub
  have o3 : os.length ≤ 3 := nodup_len o.nd o.sub
  have kl : (kn ks).length = ks.length := List.length_map _
  have i1 : 1 ≤ is.length := by
    obtain ⟨x, hx⟩ := i.a
    exact List.length_pos_of_mem hx
  have mem : ∀ z ∈ kn ks ++ os ++ inn is, z ∈ ab ++ (["o", "p", "q"] : List Str) ++ (["i", "j", "k"] : List Str) := fun z hz => by
    rcases List.mem_append.mp hz with h | h
    · refine (List.mem_append.mp h).elim (fun h => ?_) (fun h => ?_)
      · exact List.mem_append_left _ (List.mem_append_left _ (kn_ab g h))
      · exact List.mem_append_left _ (List.mem_append_right _ (o.sub z h))
    · exact List.mem_append_right _ (i.sub z h)
  have tg : ∀ x ∈ tgs n, x ∈ kn ks ++ os := fun x hx => by
    rcases List.mem_append.mp hx with h | h
    · exact List.mem_append_left _ (g.perm.mem_iff.mpr h)
    · refine List.mem_append_right _ ?_
      rcases List.mem_cons.mp h with h | h
      · rw [h]; exact o.o
      · rw [List.mem_singleton.mp h]; exact o.p
  refine ⟨⟨fun z hz => (all10 z (mem z hz)).1, fun z hz => (all10 z (mem z hz)).2.1, ?_, ?_⟩, fun p hp => ?_, met_ok g i, by omega, by omega, i1, by omega⟩
  · rw [List.nodup_append, List.nodup_append]
    exact ⟨⟨nd_ab g, o.nd, fun x hx y hy => disj1 x (kn_ab g hx) y (o.sub y hy)⟩, i.nd, fun x hx y hy => disj2 x ((List.mem_append.mp hx).elim (fun h => List.mem_append_left _ (kn_ab g h)) fun h => List.mem_append_right _ (o.sub x h)) y (i.sub y hy)⟩
  · rw [List.length_append, List.length_append, kl, il]
    omega
  · have r := g.rows p hp
    have key : ∀ d, okd n d → d.length ≤ 4 ∧ ∀ x ∈ d, x ∈ kn ks ++ os := fun d hd => ⟨by have := hd.1; omega, fun x hx => tg x (hd.2 x hx)⟩
    exact ⟨⟨r.l1, fun d hd => key d (r.ok1 d hd)⟩, ⟨r.l3, fun d hd => key d (r.ok2 d hd)⟩, r.l2⟩
theorem flat_le {n : Nat} {r : Row} : (∀ d ∈ r, okd n d) → r.flatten.length ≤ 2 * r.length := by
  induction r with
  | nil => intro _; exact Nat.le_refl _
  | cons d r ih =>
    intro h
    have h1 := (h d List.mem_cons_self).1
    have h2 := ih fun e he => h e (List.mem_cons_of_mem _ he)
    rw [List.flatten_cons, List.length_append, List.length_cons]
    omega
theorem net_in {H : Hp} {a b : Addr} {kv iv : List (Key × V)} {n : Nat} {ks : Knots} {is : Ins} (g : GK n ks) (i : GI n is) (ne : a ≠ b) (ha : H a = some (.dK kv)) (hkv : Dk H kv (kd ks)) (hb : H b = some (.dK iv)) (hiv : Dk H iv (id_ is)) : NetIn H a b kv iv ks is := by
  have hl := len_ab g
  have h4 := g.le
  have il : (inn is).length = is.length := List.length_map _
  have i3 : is.length ≤ 3 := by rw [← il]; exact nodup_len i.nd i.sub
  refine ⟨ne, ha, hkv, nd_ab g, by omega, fun p hp => ?_, hb, hiv, i.nd, by omega, fun p hp => g.perm.mem_iff.mpr (i.leads p hp)⟩
  have r := g.rows p hp
  have := flat_le r.ok2
  have := r.l3
  omega
end Bc

/-! what the law's expressions give -/
namespace Bc
open PySem L2 PyProof.Rows StX
def dItem (p : Str × PyData) : PyData := .tuple [.str p.1, p.2]
theorem dts_items {H : Hp} : ∀ {ts : List Addr} {kvs : List (Key × V)} {ds : List (Str × PyData)}, Paired (fun t kv => H t = some (.tup [kV kv.1, kv.2])) ts kvs → Dk H kvs ds → Dts H (ts.map V.ref) (ds.map dItem)
  | _, _, _, .nil, .nil => .nil
  | _, _, _, .cons h r, .cons d k => .cons (.tup h (.cons (.str _) (.cons d .nil))) (dts_items r k)
def kx (H : Hp) : V → Str
  | .ref t => match H t with
    | some (.tup (.str z :: _)) => z
    | _ => ""
  | _ => ""
theorem kx_at {H : Hp} {t : Addr} {z : Str} {u : V} (h : H t = some (.tup [.str z, u])) : kx H (.ref t) = z := by
  show (match H t with | some (.tup (.str z :: _)) => z | _ => "") = z
  rw [h]
theorem items_kx {H : Hp} : ∀ {ts : List Addr} {kvs : List (Key × V)} {ds : List (Str × PyData)}, Paired (fun t kv => H t = some (.tup [kV kv.1, kv.2])) ts kvs → Dk H kvs ds → (ts.map V.ref).map (kx H) = ds.map fun p => p.1
  | _, _, _, .nil, .nil => rfl
  | _, _, _, .cons h r, .cons d q => by
    rw [List.map_cons, List.map_cons, List.map_cons, items_kx r q]
    congr 1
    exact kx_at h
theorem items_in {H : Hp} : ∀ {ts : List Addr} {kvs : List (Key × V)} {ds : List (Str × PyData)}, Paired (fun t kv => H t = some (.tup [kV kv.1, kv.2])) ts kvs → Dk H kvs ds → ∀ x ∈ ts.map V.ref, ∃ t u z d, x = .ref t ∧ H t = some (.tup [.str z, u]) ∧ (z, d) ∈ ds ∧ Dt H u d
  | _, _, _, .nil, .nil, _, h => nomatch h
  | _, _, _, .cons h r, .cons d q, x, hx => by
    rcases List.mem_cons.mp hx with e | m
    · exact ⟨_, _, _, _, e, h, List.mem_cons_self, d⟩
    · obtain ⟨t, u, z, d', a, b, c, e⟩ := items_in r q x m
      exact ⟨t, u, z, d', a, b, List.mem_cons_of_mem _ c, e⟩
theorem dts_sorted {H : Hp} {ts : List Addr} {kvs : List (Key × V)} {ds : List (Str × PyData)} (hp : Paired (fun t kv => H t = some (.tup [kV kv.1, kv.2])) ts kvs) (hd : Dk H kvs ds) (hn : (ds.map fun p => p.1).Nodup) {ys : List V} (h1 : ys.Perm (ts.map V.ref))
    (h2 : ys.Pairwise fun x y => leS (kx H x) (kx H y) = true) : Dts H ys ((srtD ds).map dItem) := by
  have hk : ys.map (kx H) = srt (ds.map fun p => p.1) := by
    refine sorted_one (le := leS) (fun _ _ => leS_anti) ?_ (List.pairwise_map.mpr h2) (srt_pw _)
    refine (h1.map (kx H)).trans ?_
    rw [items_kx hp hd]
    exact (srt_perm _).symm
  have e : (srtD ds).map dItem = ys.map fun y => dItem (kx H y, (ds.lookup (kx H y)).getD .none) := by
    unfold srtD
    rw [← hk, List.map_map, List.map_map]
    rfl
  rw [e]
  have key : ∀ l : List V, (∀ y ∈ l, y ∈ ts.map V.ref) → Dts H l (l.map fun y => dItem (kx H y, (ds.lookup (kx H y)).getD .none)) := by
    intro l
    induction l with
    | nil => intro _; exact .nil
    | cons y r ih =>
      intro hy
      refine .cons ?_ (ih fun z hz => hy z (List.mem_cons_of_mem _ hz))
      obtain ⟨t, u, z, d, rfl, ht, hm, hu⟩ := items_in hp hd y (hy y List.mem_cons_self)
      show Dt H (V.ref t) (dItem (kx H (.ref t), (List.lookup (kx H (.ref t)) ds).getD .none))
      rw [kx_at ht, lookup_nd hn hm]
      exact .tup ht (.cons (.str z) (.cons hu .nil))
  exact key ys fun y hy => h1.mem_iff.mp hy
section
variable {K : PySem.W.Frag} {σ : L2.St} {H : Hp} {ta tb te : TE} {D : Ends} {u : TS} {C : Addr}
theorem evd_items {a : Addr} {kvs : List (Key × V)} {ds : List (Str × PyData)} (ha : Ev ta σ H (.ref a)) (h : H a = some (.dK kvs)) (hd : Dk H kvs ds) : EvD (LiI.tListItems ta) σ H (.list (ds.map dItem)) := fun Q q =>
  el_items ha h Q fun p H' ts hp e hx hw => q _ _ e (.lst hx (dts_items hw (hd.go e)))
theorem evd_sortItems {a : Addr} {kvs : List (Key × V)} {ds : List (Str × PyData)} (ha : Ev ta σ H (.ref a)) (h : H a = some (.dK kvs)) (hd : Dk H kvs ds) (hn : (ds.map fun p => p.1).Nodup) : EvD (tCB (rSortSP K) (tCons (LiI.tListItems ta) tNil)) σ H (.list ((srtD ds).map dItem)) := fun Q q =>
  el_items ha h _ fun p H' ts hp e hx hw => ⟨p, ts.map V.ref, kx H', rfl, SqL.of hx, fun x hm => by
    obtain ⟨t, u, z, d, rfl, ht, _, _⟩ := items_in hw (hd.go e) x hm
    exact ⟨t, u, rfl, by rw [kx_at ht]; exact ht⟩, by rw [items_kx hw (hd.go e)]; exact hn, fun ys p' h1 h2 h3 => q _ _ (e.trans (same_upd h3)) (.lst upd_same ((dts_sorted hw (hd.go e) hn h1 h2).go (same_upd h3)))⟩
/-- x != y, both data -/
theorem ev_neDD {d e : PyData} (ha : EvD ta σ H d) (hb : ∀ H', Same H H' → EvD tb σ H' e) (s1 : SeqAt.shaped d = true) (s2 : SeqAt.shaped e = true) : Ev (tOp (rNeD K) ta tb) σ H (.bl (!PyData.eqv d e)) := fun Q q =>
  ha _ fun x H1 e1 hx => hb H1 e1 _ fun y H2 e2 hy => ⟨d, e, Dt.dp _ _ (hx.go e2), Dt.dp _ _ hy, s1, s2, q H2 (e1.trans e2)⟩
theorem evd_ev {v : V} {d : PyData} (h : Ev te σ H v) (k : ∀ H', Same H H' → Dt H' v d) : EvD te σ H d := fun Q q => h _ fun H' e => q v H' e (k H' e)
theorem NetNew.back {H0 H1 H' : Hp} {x : Addr} {ks is : List (Str × PyData)} {os : List Str} (n : NetNew H1 H' C x ks is os) (e : Same H0 H1) : NetNew H0 H' C x ks is os := by
  obtain ⟨dx, ka, ia, oa, kv, iv, h1, h2, h3, h4, h5, h6, h7, h8⟩ := n.ex
  exact ⟨dx, ka, ia, oa, kv, iv, h1, h2, h3, h4, h5, h6, e.free h7, e.free h8⟩
/-- Net(..) -/
theorem er_net {E : XK} {t : TA} {n : Nat} {ks : Knots} {is : Ins} {os : List Str} (g : GK n ks) (i : GI n is) (o : GO os)
    (h : ∀ Q : List V → Hp → Prop, (∀ a b c kv iv H', Same H H' → a ≠ b → H' a = some (.dK kv) → Dk H' kv (kd ks) → H' b = some (.dK iv) → Dk H' iv (id_ is) → (H' c = some (.lst (os.map V.str)) ∨ H' c = some (.tup (os.map V.str))) → Q [.ref a, .ref b, .ref c] H') → t σ H Q)
    (Q : VK) (q : ∀ x H', H x = none → Same H H' → NetNew H H' C x (srtD (kd ks)) (srtD (id_ is)) (srt os) → Q (.ref x) H') : tMake C (spInit C) [] E t σ H Q :=
  h _ fun a b c kv iv H1 e1 ne ha hkv hb hiv hc x dx hx hdx ndx => ⟨H1, x, dx, a, b, c, kv, iv, ks, is, os, rfl, Bc.Same.updn (same_upd (o := HO.own x) hdx) (by rw [upd_ne (Ne.symm ndx)]; exact hx), hx, upd_same, net_in g i ne ha hkv hb hiv, hc, ok_net g i o, fun H' e' na => ⟨rfl, q x H' (e1.free hx) (e1.trans e') (na.back e1)⟩⟩
/-- the drawn net's own way -/
structure NetD (H : Hp) (C x : Addr) (ks : Knots) (is : Ins) (os : List Str) : Prop where
  at_ : NetAt H C x (kd ks) (id_ is) os
theorem NetAt.ins {x : Addr} {ks is : List (Str × PyData)} {os : List Str} (n : NetAt H C x ks is os) : ∃ dx fs, H x = some (.ins C dx fs) := by
  obtain ⟨dx, ka, ia, oa, kv, iv, h1, _⟩ := n.ex
  exact ⟨dx, _, h1⟩
theorem er_eqN {E : XK} {k1 i1 k2 i2 : List (Str × PyData)} {o1 o2 : List Str} {y : Addr} (ha : ∀ Q : VK, (∀ x H', Same H H' → NetAt H' C x k1 i1 o1 → Q (.ref x) H') → ta σ H Q) (hb : ∀ H', Same H H' → Ev tb σ H' (.ref y)) (n2 : NetAt H C y k2 i2 o2) (s1 : Shp k1 i1 o1) (s2 : Shp k2 i2 o2) :
    Ev (tOp (rEqO K C (spEq C) E) ta tb) σ H (.bl (eqNet k1 i1 o1 k2 i2 o2)) := fun Q q => ha _ fun x H1 e1 n1 => hb H1 e1 _ fun H2 e2 => by
  have n1' := n1.go e2
  have n2' := n2.go (e1.trans e2)
  obtain ⟨dx, fs, hx⟩ := n1'.ins
  obtain ⟨dy, gs, hy⟩ := n2'.ins
  exact ⟨x, dx, fs, rfl, hx, .ins hy, .inl ⟨x, y, k1, i1, k2, i2, o1, o2, rfl, n1', n2', s1, s2, fun H' e' => ⟨_, rfl, q H' (e1.trans (e2.trans e'))⟩⟩⟩
theorem ev_neN {E : XK} {k1 i1 k2 i2 : List (Str × PyData)} {o1 o2 : List Str} {x y : Addr} (ha : Ev ta σ H (.ref x)) (hb : ∀ H', Same H H' → Ev tb σ H' (.ref y)) (n1 : NetAt H C x k1 i1 o1) (n2 : NetAt H C y k2 i2 o2) (s1 : Shp k1 i1 o1) (s2 : Shp k2 i2 o2) :
    Ev (tOp (rNeO C (spEq C) E) ta tb) σ H (.bl (!eqNet k1 i1 o1 k2 i2 o2)) := fun Q q => ha _ fun H1 e1 => hb H1 e1 _ fun H2 e2 => by
  have n1' := n1.go (e1.trans e2)
  have n2' := n2.go (e1.trans e2)
  obtain ⟨dx, fs, hx⟩ := n1'.ins
  obtain ⟨dy, gs, hy⟩ := n2'.ins
  exact ⟨x, y, dx, dy, fs, gs, rfl, rfl, hx, hy, .inl ⟨x, y, k1, i1, k2, i2, o1, o2, rfl, n1', n2', s1, s2, fun H' e' => ⟨_, rfl, q H' (e1.trans (e2.trans e'))⟩⟩⟩
theorem ev_eqInt {E : XK} {k1 i1 : List (Str × PyData)} {o1 : List Str} {x : Addr} {j : Int} (ha : Ev ta σ H (.ref x)) (n1 : NetAt H C x k1 i1 o1) (nf : PySem.W.notFirst K C (.type "int") = true) : Ev (tOp (rEqO K C (spEq C) E) ta (tC (.int j))) σ H (.bl false) := fun Q q => ha _ fun H1 e1 => by
  have n1' := n1.go e1
  obtain ⟨dx, fs, hx⟩ := n1'.ins
  exact ⟨x, dx, fs, rfl, hx, .int j nf, .inr ⟨x, .int j, rfl, .inl ⟨j, rfl⟩, fun H' e' => ⟨_, rfl, q H' (e1.trans e')⟩⟩⟩
theorem ev_eqDict {E : XK} {k1 i1 : List (Str × PyData)} {o1 : List Str} {x a : Addr} {kv : List (Key × V)} (ha : Ev ta σ H (.ref x)) (hb : ∀ H', Same H H' → Ev tb σ H' (.ref a)) (h : H a = some (.dK kv)) (n1 : NetAt H C x k1 i1 o1) (nf : PySem.W.notFirst K C (.type "dict") = true) :
    Ev (tOp (rEqO K C (spEq C) E) ta tb) σ H (.bl false) := fun Q q => ha _ fun H1 e1 => hb H1 e1 _ fun H2 e2 => by
  have n1' := n1.go (e1.trans e2)
  obtain ⟨dx, fs, hx⟩ := n1'.ins
  have h' := (e1.trans e2) _ _ h
  exact ⟨x, dx, fs, rfl, hx, .dict h' nf, .inr ⟨x, .ref a, rfl, .inr ⟨a, kv, rfl, h'⟩, fun H' e' => ⟨_, rfl, q H' (e1.trans (e2.trans e'))⟩⟩⟩
theorem ev_lenN {E : XK} {k1 i1 : List (Str × PyData)} {o1 : List Str} {x : Addr} (ha : Ev ta σ H (.ref x)) (n1 : NetAt H C x k1 i1 o1) (hl : k1.length ≤ 1000) : Ev (tCB (rLenO C (spLen C) E) (tCons ta tNil)) σ H (.int (k1.length : Nat)) := fun Q q => ha _ fun H1 e1 => by
  have n1' := n1.go e1
  obtain ⟨dx, fs, hx⟩ := n1'.ins
  exact ⟨x, dx, fs, rfl, hx, x, k1, i1, o1, rfl, n1', fun H' e' => ⟨_, rfl, by omega, q H' (e1.trans e')⟩⟩
theorem ev_inN {E : XK} {k1 i1 : List (Str × PyData)} {o1 : List Str} {x : Addr} {z : Str} (ha : Ev ta σ H (.str z)) (hb : ∀ H', Same H H' → Ev tb σ H' (.ref x)) (n1 : NetAt H C x k1 i1 o1) : Ev (tOp (rInO C (spHas C) E false) ta tb) σ H (.bl ((k1.lookup z).isSome || decide (z ∈ o1))) := fun Q q =>
  ha _ fun H1 e1 => hb H1 e1 _ fun H2 e2 => by
  have n1' := n1.go (e1.trans e2)
  obtain ⟨dx, fs, hx⟩ := n1'.ins
  exact ⟨x, dx, fs, rfl, hx, x, z, k1, i1, o1, rfl, n1', fun H' e' => ⟨_, rfl, q H' (e1.trans (e2.trans e'))⟩⟩
end
end Bc

namespace Bc
open PySem L2 PyProof.Rows StX
/-! ### drawn nets, in order -/
theorem srtD_kd {n : Nat} {ks ks' : Knots} (hp : (kn ks).Perm (ab.take n)) (hk : kn ks' = ab.take n) (hm : ∀ p ∈ ks', p ∈ ks) : srtD (kd ks) = kd ks' := by
  have hn : (kn ks).Nodup := hp.nodup_iff.mpr (ab_nodup n)
  refine srtD_is ?_ fun p h => ?_
  · have e1 : (kd ks).map (fun p => p.1) = kn ks := kd_keys ks
    have e2 : (kd ks').map (fun p => p.1) = kn ks' := kd_keys ks'
    rw [e1, e2, hk]
    exact srt_of_sorted hp (ab_sorted n)
  · obtain ⟨⟨x, r⟩, h1, rfl⟩ := List.mem_map.mp h
    exact kd_get hn (hm _ h1)
theorem srtD_id {is is' : Ins} (hp : (inn is).Perm (inn is')) (hn : (inn is).Nodup) (hs : sortedS (inn is') = true) (hm : ∀ p ∈ is', p ∈ is) : srtD (id_ is) = id_ is' := by
  refine srtD_is ?_ fun p h => ?_
  · have e1 : (id_ is).map (fun p => p.1) = inn is := id_keys is
    have e2 : (id_ is').map (fun p => p.1) = inn is' := id_keys is'
    rw [e1, e2]
    exact srt_of_sorted hp hs
  · obtain ⟨⟨x, r⟩, h1, rfl⟩ := List.mem_map.mp h
    exact id_get hn (hm _ h1)
theorem ok_mem {x : Str} (h : x ∈ ab ++ (["o", "p", "q"] : List Str) ++ (["i", "j", "k"] : List Str)) : PyData.strOk x = true := (all10 x h).2.2
theorem ok_tgs {n : Nat} {x : Str} (h : x ∈ tgs n) : PyData.strOk x = true := by
  refine ok_mem (List.mem_append_left _ ?_); rcases List.mem_append.mp h with h | h
  · exact List.mem_append_left _ (List.mem_of_mem_take h)
  · refine List.mem_append_right _ ?_
    rcases List.mem_cons.mp h with h | h
    · rw [h]; decide +kernel
    · rw [List.mem_singleton.mp h]; decide +kernel
theorem ok_abn {n : Nat} {x : Str} (h : x ∈ ab.take n) : PyData.strOk x = true := ok_mem (List.mem_append_left _ (List.mem_append_left _ (List.mem_of_mem_take h)))
theorem lay_g {n : Nat} {r : Rows} (g : GRows n r) : (dRows r).canLay0 = true := lay_rows (fun d hd x hx => ok_tgs ((g.ok1 d hd).2 x hx)) fun d hd x hx => ok_tgs ((g.ok2 d hd).2 x hx)
theorem lay_kd {n : Nat} {ks : Knots} (g : GK n ks) : ∀ p ∈ kd ks, p.2.canLay0 = true := fun p hp => by
  obtain ⟨⟨x, r⟩, h1, rfl⟩ := List.mem_map.mp hp
  exact lay_g (g.rows _ h1)
theorem lay_id {n : Nat} {is : Ins} (i : GI n is) : ∀ p ∈ id_ is, p.2.canLay0 = true := fun p hp => by
  obtain ⟨⟨x, z⟩, h1, rfl⟩ := List.mem_map.mp hp
  exact ok_abn (i.leads _ h1)
theorem lay_os {os : List Str} (o : GO os) : (dOs os).canLay0 = true := lay_strs fun x hx => ok_mem (List.mem_append_left _ (List.mem_append_right _ (o.sub x hx)))
theorem shp_ok {n : Nat} {ks : Knots} {is : Ins} {os : List Str} (g : GK n ks) (i : GI n is) (o : GO os) : Shp (kd ks) (id_ is) os :=
  ⟨fun p hp => by
    obtain ⟨⟨x, r⟩, h1, rfl⟩ := List.mem_map.mp hp
    exact shaped_of (n := 3) (lay_g (g.rows _ h1)) (depth_rows r), fun p hp => by
    obtain ⟨⟨x, z⟩, h1, rfl⟩ := List.mem_map.mp hp
    exact shaped_of (n := 0) (ok_abn (i.leads _ h1)) (Nat.le_refl _), shaped_of (n := 1) (lay_os o) (Nat.succ_le_succ (depth_strs os))⟩
theorem eqNet_refl {n : Nat} {ks : Knots} {is : Ins} {os : List Str} (g : GK n ks) (i : GI n is) (o : GO os) : eqNet (kd ks) (id_ is) os (kd ks) (id_ is) os = true := by
  unfold eqNet
  have e1 : (kd ks).map (fun p => p.1) = kn ks := kd_keys ks
  have e2 : (id_ is).map (fun p => p.1) = inn is := id_keys is
  rw [eqDK_refl (by rw [e1]; exact nd_ab g) (lay_kd g), eqDK_refl (by rw [e2]; exact i.nd) (lay_id i), SeqAt.eqv_refl _ (lay_os o)]
  rfl
theorem eqNet_k {k1 i1 k2 i2 : List (Str × PyData)} {o1 o2 : List Str} (h : eqDK k1 k2 = false) : eqNet k1 i1 o1 k2 i2 o2 = false := by
  unfold eqNet
  rw [h]
  rfl
theorem eqNet_i {k1 i1 k2 i2 : List (Str × PyData)} {o1 o2 : List Str} (h : eqDK i1 i2 = false) : eqNet k1 i1 o1 k2 i2 o2 = false := by
  unfold eqNet
  rw [h, Bool.false_and, Bool.and_false]
  rfl
theorem eqNet_o {k1 i1 k2 i2 : List (Str × PyData)} {o1 o2 : List Str} (h : PyData.eqv (dOs o1) (dOs o2) = false) : eqNet k1 i1 o1 k2 i2 o2 = false := by
  unfold eqNet
  rw [h, Bool.and_false, Bool.and_false]
  rfl
/-- the inlets i and j -/
def is0 (y : Str) : Ins := [("i", "a"), ("j", y)]
theorem dk_is0 {H : Hp} {y : Str} : Dk H (insD y) (id_ (is0 y)) := .cons (.str _) (.cons (.str _) .nil)
theorem gi_of {n : Nat} {is : Ins} (h1 : (inn is).Nodup) (h2 : ∀ x ∈ inn is, x ∈ (["i", "j", "k"] : List Str)) (h3 : ∃ x : Str, (x, ("a" : Str)) ∈ is) (h4 : ∀ p ∈ is, p.2 ∈ ab.take n) : GI n is := ⟨h1, h2, h3, h4⟩
theorem a_in {n : Nat} (h : 1 ≤ n) : ("a" : Str) ∈ ab.take n := by
  match n, h with
  | n + 1, _ => exact List.mem_cons_self
theorem gi_is0 {n : Nat} {y : Str} (h : 1 ≤ n) (hy : y ∈ ab.take n) : GI n (is0 y) := ⟨by show (["i", "j"] : List Str).Nodup; decide +kernel, by show ∀ x ∈ (["i", "j"] : List Str), _; decide +kernel, ⟨"i", List.mem_cons_self⟩, fun p hp => by
  rcases List.mem_cons.mp hp with h' | h'
  · rw [h']; exact a_in h
  · rw [List.mem_singleton.mp h']; exact hy⟩
theorem go_op : GO ["o", "p"] := ⟨by decide +kernel, by decide +kernel, by decide +kernel, by decide +kernel⟩
theorem go_po : GO ["p", "o"] := ⟨by decide +kernel, by decide +kernel, by decide +kernel, by decide +kernel⟩
theorem go_opq : GO ["o", "p", "q"] := ⟨by decide +kernel, by decide +kernel, by decide +kernel, by decide +kernel⟩
theorem srt_po : srt (["p", "o"] : List Str) = (["o", "p"] : List Str) := srt_of_sorted (List.Perm.swap _ _ _) (by decide +kernel)
theorem srt_op : srt (["o", "p"] : List Str) = (["o", "p"] : List Str) := srt_of_sorted (List.Perm.refl _) (by decide +kernel)
theorem srt_opq : srt (["o", "p", "q"] : List Str) = (["o", "p", "q"] : List Str) := srt_of_sorted (List.Perm.refl _) (by decide +kernel)
theorem srtD_is0 {y : Str} : srtD (id_ (is0 y)) = id_ (is0 y) := srtD_id (List.Perm.refl _) (by show (["i", "j"] : List Str).Nodup; decide +kernel) (by show sortedS ["i", "j"] = true; decide +kernel) fun _ h => h
theorem srtD_is0r {y : Str} : srtD (id_ (is0 y).reverse) = id_ (is0 y) := srtD_id (List.Perm.swap _ _ _) (by show (["j", "i"] : List Str).Nodup; decide +kernel) (by show sortedS ["i", "j"] = true; decide +kernel) fun p h => by
  show p ∈ ([("j", y), ("i", "a")] : List (Str × Str))
  rcases List.mem_cons.mp h with h | h
  · rw [h]; exact List.mem_cons_of_mem _ List.mem_cons_self
  · rw [List.mem_singleton.mp h]; exact List.mem_cons_self
theorem gi_is0r {n : Nat} {y : Str} (h : 1 ≤ n) (hy : y ∈ ab.take n) : GI n (is0 y).reverse := by
  have g := gi_is0 h hy
  exact ⟨by show (["j", "i"] : List Str).Nodup; decide +kernel, by show ∀ x ∈ (["j", "i"] : List Str), _; decide +kernel, ⟨"i", List.mem_reverse.mpr List.mem_cons_self⟩, fun p hp => g.leads p (List.mem_reverse.mp hp)⟩
theorem gk_of {r : Nat} {ks : Knots} (hr : r < 4) (d : DKn (1 + r) (1 + r) ks) : GK (1 + r) ks := by
  have hk : kn ks = ab.take (1 + r) := by
    rw [d.names, List.take_take]
    congr 1
    omega
  refine ⟨by omega, by omega, by rw [hk], fun p hp => ?_, fun j x rr y hx hm hy => ?_⟩
  · have g := d.rows p hp
    exact ⟨by have := g.l1; omega, g.l2, by have := g.l3; omega, g.ok1, g.ok2⟩
  · obtain ⟨i, hi, e⟩ := List.mem_iff_getElem.mp hm
    have e1 : (kn ks)[i]? = some x := by
      unfold kn
      rw [List.getElem?_map, List.getElem?_eq_getElem hi, e]
      rfl
    rw [hk] at e1
    have hij : i = j := nd_ix (ab_nodup (1 + r)) e1 hx
    subst hij
    exact d.next i x rr y (by rw [List.getElem?_eq_getElem hi, e]) hy
theorem gk_rev {n : Nat} {ks : Knots} (g : GK n ks) : GK n ks.reverse :=
  ⟨g.pos, g.le, by
    unfold kn
    rw [List.map_reverse]
    exact (List.reverse_perm _).trans g.perm, fun p hp => g.rows p (List.mem_reverse.mp hp), fun j x r y h1 h2 h3 => g.next j x r y h1 (List.mem_reverse.mp h2) h3⟩
theorem Dk.append {H : Hp} : ∀ {a b : List (Key × V)} {c d : List (Str × PyData)}, Dk H a c → Dk H b d → Dk H (a ++ b) (c ++ d)
  | _, _, _, _, .nil, h => h
  | _, _, _, _, .cons h r, k => .cons h (Dk.append r k)
theorem Dk.reverse {H : Hp} : ∀ {a : List (Key × V)} {c : List (Str × PyData)}, Dk H a c → Dk H a.reverse c.reverse
  | _, _, .nil => .nil
  | _, _, .cons h r => by
    rw [List.reverse_cons, List.reverse_cons]; exact (Dk.reverse r).append (.cons h .nil)
theorem id_any {H H' : Hp} : ∀ {is : Ins} {kv : List (Key × V)}, Dk H kv (id_ is) → Dk H' kv (id_ is)
  | [], _, .nil => .nil
  | _ :: _, _, .cons h k => .cons (by cases h; exact .str _) (id_any k)
/-! ### the rows of one knot another -/
def updK (ks : Knots) (x : Str) (r : Rows) : Knots := ks.map fun p => if p.1 = x then (p.1, r) else p
theorem kn_upd (ks : Knots) (x : Str) (r : Rows) : kn (updK ks x r) = kn ks := by
  unfold kn updK
  rw [List.map_map]
  refine List.map_congr_left fun p _ => ?_; show (if p.1 = x then (p.1, r) else p).1 = p.1
  split <;> rfl
theorem mem_upd {ks : Knots} {x : Str} {r : Rows} {p : Str × Rows} (h : p ∈ updK ks x r) : (p ∈ ks ∧ p.1 ≠ x) ∨ (p = (x, r) ∧ ∃ r0, (x, r0) ∈ ks) := by
  obtain ⟨q, hq, e⟩ := List.mem_map.mp h
  by_cases hx : q.1 = x
  · rw [if_pos hx] at e
    refine .inr ⟨by rw [← e, hx], q.2, ?_⟩
    rw [← hx]
    exact hq
  · rw [if_neg hx] at e
    subst e
    exact .inl ⟨hq, hx⟩
theorem gk_upd {n : Nat} {ks : Knots} {x : Str} {r0 r : Rows} (g : GK n ks) (h0 : (x, r0) ∈ ks) (h1 : GRows n r) (h2 : ∀ d ∈ r0.2, d ∈ r.2) : GK n (updK ks x r) :=
  ⟨g.pos, g.le, by rw [kn_upd]; exact g.perm, fun p hp => by
    rcases mem_upd hp with h | ⟨rfl, _⟩
    · exact g.rows p h.1
    · exact h1, fun j z rr y e1 e2 e3 => by
    rcases mem_upd e2 with h | ⟨h, _⟩
    · exact g.next j z rr y e1 h.1 e3
    · cases h
      exact h2 _ (g.next j x r0 y e1 h0 e3)⟩
theorem dk_upd {H : Hp} {x : Str} {v : V} {r : Rows} (hv : Dt H v (dRows r)) : ∀ {ks : Knots} {kv : List (Key × V)}, Dk H kv (kd ks) → (∃ r0, (x, r0) ∈ ks) → Dk H (putK kv (.inr x) v) (kd (updK ks x r)) := by
  have key : ∀ {ks : Knots} {kv : List (Key × V)}, Dk H kv (kd ks) → Dk H (kv.map fun q => if q.1 = .inr x then (q.1, v) else q) (kd (updK ks x r)) := by
    intro ks
    induction ks with
    | nil => intro kv h; cases h; exact .nil
    | cons p r' ih =>
      intro kv h
      obtain ⟨z, rr⟩ := p
      cases h with
      | cons h1 h2 =>
        rename_i v0 kvs0
        have e1 : kd (updK ((z, rr) :: r') x r) = (let q := (if z = x then (z, r) else (z, rr)); (q.1, dRows q.2)) :: kd (updK r' x r) := rfl
        have e2 : (((Sum.inr z : Key), v0) :: kvs0).map (fun q => if q.1 = (.inr x : Key) then (q.1, v) else q) = (if (Sum.inr z : Key) = .inr x then ((Sum.inr z : Key), v) else (.inr z, v0)) :: kvs0.map (fun q => if q.1 = (.inr x : Key) then (q.1, v) else q) := rfl
        rw [e1]
        show Dk H ((((Sum.inr z : Key), v0) :: kvs0).map _) _
        rw [e2]
        by_cases e : z = x
        · subst e
          rw [if_pos rfl, if_pos rfl]
          exact .cons hv (ih h2)
        · rw [if_neg (fun q => e (Sum.inr.inj q)), if_neg e]
          exact .cons h1 (ih h2)
  intro ks kv h ⟨r0, hm⟩
  have e : (kv.any fun q => decide (q.1 = .inr x)) = true := by
    rw [List.any_eq_true]
    have hk := h.keys
    have : (Sum.inr x : Key) ∈ kv.map (·.1) := by
      rw [hk]
      refine List.mem_map.mpr ⟨x, ?_, rfl⟩
      exact List.mem_map.mpr ⟨(x, dRows r0), List.mem_map.mpr ⟨(x, r0), hm, rfl⟩, rfl⟩
    obtain ⟨q, h1, h2⟩ := List.mem_map.mp this
    exact ⟨q, h1, decide_eq_true h2⟩
  unfold putK
  rw [if_pos e]
  exact key h
end Bc

namespace Bc
open PySem L2 PyProof.Rows StX
/-- a comprehension without tests over a walk: what R says of each item made -/
theorem lc_nameD {J : It} {n : Nat} {G : Hp → Prop} {Y : Nat → Hp → V → Hp → Prop} (w : Walk J n G Y) {te : TE} {j : Nat} {vs : List Nat} {σ : L2.St} {H1 : Hp} {D : Addr} {Qd : Hp → Prop} (R : Nat → V → Hp → Prop)
    (hm : ∀ i y H H', Same H H' → R i y H → R i y H') (hD : H1 D = none) (hn : n < 100000) (hG : ∀ H, Same H1 H → G H) (hw : ∀ x, wipe ((wipe σ vs).set j (some x)) vs = wipe σ vs)
    (hs : ∀ i x H H', i < n → Same H1 H → (∃ acc, H D = some (.lst acc)) → Y i H x H' → Same H H' ∧ ∀ Q : VK, (∀ y H4, Same H' H4 → R i y (hide H4 D) → Q y H4) → te ((wipe σ vs).set j (some x)) H' Q)
    (hd : ∀ ys H, ys.length = n → (∀ i y, ys[i]? = some y → R i y (hide H D)) → Same H1 H → H D = some (.lst ys) → Qd H) : ∃ W : Nat → Nat → Hp → Prop, (∃ m, W 0 m (upd H1 D (.lst []))) ∧ ∀ i m H, W i m H →
      (J.stop i H ∧ Qd H) ∨ (J.go i H ∧ ∃ Nx : Hp → Prop, (∀ H', Nx H' → ∃ m', m' < m ∧ W (i + 1) m' H') ∧ ∀ x H', J.yld i H x H' → gName j x (wipe σ vs) H' fun σ2 H2 => wipe σ2 vs = wipe σ vs ∧ tYes σ2 H2 fun b H3 => if b = true then te σ2 H3 fun y H4 => ∃ acc, H4 D = some (.lst acc) ∧ acc.length < sizeLine ∧ Nx (upd H4 D (.lst (acc ++ [y]))) else Nx H3) := by
  refine lc_it w (fun i H => Same H1 H ∧ ∃ acc, H D = some (.lst acc) ∧ acc.length = i ∧ ∀ k y, acc[k]? = some y → R k y (hide H D)) ⟨same_upd hD, [], upd_same, rfl, fun k y e => by simp at e⟩ (fun i H _ p => hG H p.1) (fun i x H H' hi p y => ?_) (fun H p => ?_)
  · obtain ⟨s1, acc, ha, hl, hr⟩ := p
    obtain ⟨s2, k⟩ := hs i x H H' hi s1 ⟨acc, ha⟩ y
    refine ⟨hw x, ?_⟩
    show te ((wipe σ vs).set j (some x)) H' _
    refine (k _ fun y H4 s3 r => ⟨acc, s3 _ _ (s2 _ _ ha), szl (by omega), Same.mut ((s1.trans s2).trans s3) hD, acc ++ [y], upd_same, by rw [List.length_append, List.length_singleton, hl], fun k z e => ?_⟩)
    have key : hide (upd H4 D (.lst (acc ++ [y]))) D = hide H4 D := by
      funext b
      unfold hide
      by_cases h : b = D
      · rw [if_pos h, if_pos h]
      · rw [if_neg h, if_neg h, upd_ne h]
    rw [key]
    by_cases h : k < acc.length
    · rw [List.getElem?_append_left h] at e
      exact hm k z _ _ (hide_mono (s2.trans s3)) (hr k z e)
    · rw [List.getElem?_append_right (by omega)] at e
      have h0 : k - acc.length = 0 := by
        rcases Nat.eq_zero_or_pos (k - acc.length) with q | q
        · exact q
        · have q2 : ([y] : List V).length ≤ k - acc.length := by
            show 1 ≤ _
            omega
          rw [List.getElem?_eq_none_iff.mpr q2] at e
          cases e
      rw [h0] at e
      have hk : k = i := by omega
      subst hk
      cases e
      exact r
  · obtain ⟨s1, acc, ha, hl, hr⟩ := p
    exact hd acc H hl hr s1 ha
theorem dts_of {H : Hp} : ∀ {ys : List V} {ds : List PyData}, ys.length = ds.length → (∀ (i : Nat) (y : V) (d : PyData), ys[i]? = some y → ds[i]? = some d → Dt H y d) → Dts H ys ds
  | [], [], _, _ => .nil
  | y :: ys, d :: ds, hl, h => .cons (h 0 y d rfl rfl) (dts_of (by simpa using hl) fun i y' d' h1 h2 => h (i + 1) y' d' (by simpa using h1) (by simpa using h2))
  | [], _ :: _, hl, _ => absurd hl (by simp)
  | _ :: _, [], hl, _ => absurd hl (by simp)
section
variable {K : PySem.W.Frag} {σ : L2.St} {H : Hp} {ta tb te : TE} {t : TA} {D : Ends} {u : TS} {C : Addr}
/-- a for over a new tuple; its turns make things alone -/
theorem q_forT {tb : TS} {j : Nat} {R : List V → Hp → Prop} (h : ∀ Q : VK, (∀ p H1 xs, R xs H1 → Same H H1 → H1 p = some (.tup xs) → Q (.ref p) H1) → te σ H Q) (Ok : L2.St → Prop) (hOk : Ok σ)
    (hs : ∀ H1 xs, R xs H1 → Same H H1 → ∀ x σ' H', x ∈ xs → Same H1 H' → Ok σ' → tb { D with nx := fun σ2 H2 => Ok σ2 ∧ Same H1 H2, ct := fun σ2 H2 => Ok σ2 ∧ Same H1 H2, bk := u D } (σ'.set j (some x)) H') (hd : ∀ σ' H', Ok σ' → Same H H' → u D σ' H') :
    tSeq (tFor (iTup K te) (gName j) tb) u D σ H := h _ fun p H1 xs r e1 hx => ⟨p, rfl, ⟨xs, SqT.of hx⟩, for_it (walk_tup (K := K) (a := p) (xs := xs)) (fun _ σ' H' => Ok σ' ∧ Same H1 H') ⟨hOk, Same.refl _⟩ (fun i σ' H' _ q => SqT.of (q.2 _ _ hx)) (fun i x σ' H2 H3 hi q y => by
      obtain ⟨rfl, hy⟩ := y
      exact hs H1 xs r e1 x σ' _ (List.mem_of_getElem? hy) q.2 q.1) fun σ' H' q => hd σ' H' q.1 (e1.trans q.2)⟩
theorem eu_tup {vs : List V} (h : EvA t σ H vs) (hl : vs.length ≤ 100000) : EvU (tTup t) σ H vs := fun Q q => h _ fun H1 e1 => ⟨sz hl, fun p hp => q p _ (e1.free hp) (e1.trans (same_upd hp)) upd_same⟩
def EvDA (t : TA) (σ : L2.St) (H : Hp) (ds : List PyData) : Prop := ∀ Q : List V → Hp → Prop, (∀ vs H', Same H H' → Dts H' vs ds → Q vs H') → t σ H Q
theorem eda_nil : EvDA tNil σ H [] := fun Q q => q [] H (Same.refl H) .nil
theorem eda_cons {d : PyData} {ds : List PyData} {tr : TA} (h : EvD te σ H d) (k : ∀ H', Same H H' → EvDA tr σ H' ds) : EvDA (tCons te tr) σ H (d :: ds) := fun Q q => h _ fun v H1 e1 hd => k H1 e1 _ fun vs H2 e2 hs => q (v :: vs) H2 (e1.trans e2) (.cons (hd.go e2) hs)
theorem er_tupD {ds : List PyData} (h : EvDA t σ H ds) (hl : ds.length ≤ 100000) (Q : VK) (q : ∀ p H1 xs, Dts H1 xs ds → Same H H1 → H1 p = some (.tup xs) → Q (.ref p) H1) : tTup t σ H Q := h _ fun vs H1 e1 hs => ⟨by rw [hs.length]; exact sz hl, fun p hp => q p _ vs (hs.go (same_upd hp)) (e1.trans (same_upd hp)) upd_same⟩
theorem evd_itemsK {kvs : List (Key × V)} {ds : List (Str × PyData)} (h : EvK te σ H kvs) (hd : ∀ H', Dk H' kvs ds) : EvD (LiI.tListItems te) σ H (.list (ds.map dItem)) := fun Q q => h _ fun a H1 ha e1 hx =>
  ⟨a, kvs, rfl, hx, fun H' p ts e2 hp _ _ hl hw => q _ _ (e1.trans e2) (.lst hl (dts_items hw (hd H')))⟩
def zd (zs : List Str) : List (Str × PyData) := zs.map fun z => (z, .int 0)
theorem dk_zeros {H : Hp} : ∀ zs : List Str, Dk H (zeros zs) (zd zs)
  | [] => .nil
  | z :: r => .cons (.int 0) (dk_zeros r)
theorem zd_keys (zs : List Str) : (zd zs).map (fun p => p.1) = zs := by
  unfold zd
  rw [List.map_map]
  exact List.map_id _
/-- [(z, 0) for z in ..] -/
theorem evd_lcZ {tl : TE} {zs : List Str} {j : Nat} (h : EvL tl σ H (zs.map V.str)) (hl : zs.length < 100000) (hw : ∀ x, wipe ((wipe σ [j]).set j (some x)) [j] = wipe σ [j]) (hg : ∀ x, ((wipe σ [j]).set j (some x))[j]? = some (some x)) :
    EvD (tLc (iList K tl) (gName j) tYes (tTup (tCons (tVar j) (tCons (tC (.int 0)) tNil))) [j]) σ H (.list ((zd zs).map dItem)) := fun Q q =>
  h _ fun a H1 ha e1 hx => ⟨a, rfl, ⟨_, SqL.of hx⟩, fun Dd hD => by
    refine lc_nameD (walk_list (K := K) (a := a) (xs := zs.map V.str)) (fun i y H => ∀ z, zs[i]? = some z → Dt H y (dItem (z, .int 0))) (fun i y H H' e h z hz => (h z hz).go e) hD (by rw [List.length_map]; exact hl) (fun H2 e2 => SqL.of (e2 _ _ hx)) hw (fun i x H2 H3 hi e2 hacc y => ?_) (fun ys H2 hyl hr e2 hy => ?_)
    · obtain ⟨rfl, hy⟩ := y
      refine ⟨Same.refl _, fun Q2 q2 => ?_⟩
      rw [List.getElem?_map] at hy
      obtain ⟨z, hz, rfl⟩ := Option.map_eq_some_iff.mp hy
      refine ⟨_, hg _, by show 2 ≤ sizeLine; decide, fun p hp => q2 _ _ (same_upd hp) fun z' hz' => ?_⟩
      rw [hz] at hz'
      cases hz'
      refine .tup ?_ (.cons (.str z) (.cons (.int 0) .nil))
      obtain ⟨acc, hacc⟩ := hacc
      rw [hide_ne (fun e => by rw [e, hacc] at hp; cases hp), upd_same]
    · refine q _ _ (e1.trans e2) (.lst hy (dts_of (by rw [hyl, List.length_map, List.length_map]; unfold zd; rw [List.length_map]) fun i y d h1 h2 => ?_))
      unfold zd at h2
      rw [List.getElem?_map, List.getElem?_map] at h2
      obtain ⟨p, h3, rfl⟩ := Option.map_eq_some_iff.mp h2
      obtain ⟨z, h4, rfl⟩ := Option.map_eq_some_iff.mp h3
      exact (hr i y h1 z h4).go hide_same⟩
theorem ev_inTU {tb : TE} {z : Str} {os : List Str} (ha : Ev ta σ H (.str z)) (hb : ∀ H', Same H H' → EvU tb σ H' (os.map V.str)) : Ev (tOp (rIn K false) ta tb) σ H (.bl (decide (z ∈ os))) := fun Q q =>
  ha _ fun H1 e1 => hb H1 e1 _ fun p H2 hp e2 h => ⟨p, os.map V.str, rfl, .inr (SqT.of h), rfl, flat_strs os, by
    show Q (.bl (if false = true then _ else inV _ _)) H2
    rw [if_neg (by decide), inV_strs]
    exact q H2 (e1.trans e2)⟩
/-- dict(list(d.items()) + [(x, v)]) -/
abbrev rDictP (K : PySem.W.Frag) : List V → Hp → VK → Prop := fun xs H Q => ∃ (a : Addr) (ps : List Addr) (kvs : List (Key × V)), xs = [.ref a] ∧ SqL K H a (ps.map V.ref) ∧ Paired (fun p kv => SqT K H p [kV kv.1, kv.2]) ps kvs ∧ ∀ p, H p = none → Q (.ref p) (upd H p (.dK (mergeK [] kvs)))
theorem ek_dictCat {tx tv : TE} {a : Addr} {kvs : List (Key × V)} {k : Key} {v : V} (ha : Ev ta σ H (.ref a)) (h : H a = some (.dK kvs)) (hx : ∀ H', Same H H' → Ev tx σ H' (kV k)) (hv : ∀ H', Same H H' → Ev tv σ H' v) (hl : kvs.length ≤ 1000) :
    EvK (tCB (rDictP K) (tCons (tOp rCat (LiI.tListItems ta) (tLst (tCons (tTup (tCons tx (tCons tv tNil))) tNil))) tNil)) σ H (mergeK [] (kvs ++ [(k, v)])) := fun Q q =>
  el_items ha h _ fun p H1 ts hp e1 hpl hw => hx H1 e1 _ fun H2 e2 => hv H2 (e1.trans e2) _ fun H3 e3 => ⟨by show 2 ≤ sizeLine; decide, fun t ht => ⟨by show 1 ≤ sizeLine; decide, fun l hl' => by
    have e23 := e2.trans e3
    have e34 := (same_upd (o := HO.tup [kV k, v]) ht).trans (same_upd (o := HO.lst [V.ref t]) hl')
    have htl := hw.length
    refine ⟨p, l, ts.map V.ref, [.ref t], rfl, rfl, e34 _ _ (e23 _ _ hpl), upd_same, by rw [List.length_map, htl]; exact sz (by show kvs.length + 1 ≤ _; omega), fun m hm => ?_⟩
    have e45 := same_upd (o := HO.lst (ts.map V.ref ++ [V.ref t])) hm
    refine ⟨m, ts ++ [t], kvs ++ [(k, v)], rfl, SqL.of (by rw [upd_same, List.map_append]; rfl), paired_append (L2.Paired.mapP hw fun t kv h => SqT.of (e45 _ _ (e34 _ _ (e23 _ _ h)))) (.cons (SqT.of (e45 _ _ (same_upd hl' _ _ upd_same))) .nil), fun d hd => ?_⟩
    have eall := e1.trans (e23.trans (e34.trans e45))
    exact q d _ (eall.free hd) (eall.trans (same_upd hd)) upd_same⟩⟩
theorem ek_dictI {a : Addr} {kvs : List (Key × V)} (ha : Ev ta σ H (.ref a)) (h : H a = some (.dK kvs)) : EvK (tCB (rDictP K) (tCons (LiI.tListItems ta) tNil)) σ H (mergeK [] kvs) := ek_dictP fun Q q => el_items ha h Q q
/-- == and != of dicts just made -/
theorem ev_eqKK {k1 k2 : List (Key × V)} {d1 d2 : List (Str × PyData)} (ha : EvK ta σ H k1) (hb : ∀ H', Same H H' → EvK tb σ H' k2) (h1 : ∀ H', Dk H' k1 d1) (h2 : ∀ H', Dk H' k2 d2) (s1 : ∀ p ∈ d1, SeqAt.shaped p.2 = true) (s2 : ∀ p ∈ d2, SeqAt.shaped p.2 = true) : Ev (tOp rEqDK ta tb) σ H (.bl (eqDK d1 d2)) := fun Q q =>
  ha _ fun a H1 _ e1 ha1 => hb H1 e1 _ fun b H2 _ e2 hb2 => ⟨a, b, k1, k2, d1, d2, rfl, rfl, e2 _ _ ha1, hb2, h1 _, h2 _, s1, s2, q H2 (e1.trans e2)⟩
theorem ev_neKV {k1 k2 : List (Key × V)} {d1 d2 : List (Str × PyData)} {b : Addr} (ha : EvK ta σ H k1) (hb : ∀ H', Same H H' → Ev tb σ H' (.ref b)) (hb2 : H b = some (.dK k2)) (h1 : ∀ H', Dk H' k1 d1) (h2 : ∀ H', Dk H' k2 d2) (s1 : ∀ p ∈ d1, SeqAt.shaped p.2 = true) (s2 : ∀ p ∈ d2, SeqAt.shaped p.2 = true) : Ev (tOp rNeDK ta tb) σ H (.bl (!eqDK d1 d2)) := fun Q q =>
  ha _ fun a H1 _ e1 ha1 => hb H1 e1 _ fun H2 e2 => ⟨a, b, k1, k2, d1, d2, rfl, rfl, e2 _ _ ha1, (e1.trans e2) _ _ hb2, h1 _, h2 _, s1, s2, q H2 (e1.trans e2)⟩
/-- [x for x in zs if x != y] -/
theorem el_lcNe {tl : TE} {tt : TT} {zs : List Str} {y : Str} {j : Nat} (h : EvL tl σ H (zs.map V.str)) (hl : zs.length < 100000) (hw : ∀ x, wipe ((wipe σ [j]).set j (some x)) [j] = wipe σ [j]) (hg : ∀ x, ((wipe σ [j]).set j (some x))[j]? = some (some x))
    (ht : ∀ z H', Same H H' → EvB tt ((wipe σ [j]).set j (some (.str z))) H' (!decide (z = y))) : EvL (tLc (iList K tl) (gName j) tt (tVar j) [j]) σ H ((zs.filter fun z => !decide (z = y)).map V.str) := fun Q q =>
  h _ fun a H1 ha e1 hx => ⟨a, rfl, ⟨_, SqL.of hx⟩, fun Dd hD => by
    refine lc_it (walk_list (K := K) (a := a) (xs := zs.map V.str)) (fun i H2 => Same H1 H2 ∧ H2 Dd = some (.lst (((zs.take i).filter fun z => !decide (z = y)).map V.str))) ⟨same_upd hD, upd_same⟩ (fun i H2 _ p => SqL.of (p.1 _ _ hx)) (fun i x H2 H3 hi p yy => ?_) (fun H2 p => ?_)
    · obtain ⟨rfl, hy⟩ := yy
      rw [List.getElem?_map] at hy
      obtain ⟨z, hz, rfl⟩ := Option.map_eq_some_iff.mp hy
      refine ⟨hw _, ht z _ (e1.trans p.1) _ fun H4 e4 => ?_⟩
      have hd4 := e4 _ _ p.2
      have lt : ((zs.take i).filter fun z => !decide (z = y)).length < 100000 := by
        have h1 := List.length_filter_le (fun z => !decide (z = y)) (zs.take i)
        have h2 := List.length_take_le i zs
        have h3 : (zs.take i).length ≤ zs.length := by rw [List.length_take]; exact Nat.min_le_right _ _
        omega
      by_cases hb : (!decide (z = y)) = true
      · rw [if_pos hb]
        refine ⟨_, hg _, _, hd4, by rw [List.length_map]; exact szl lt, Same.mut (p.1.trans e4) hD, ?_⟩
        rw [upd_same, take_snoc hz, List.filter_append, List.map_append]
        simp [hb]
      · rw [if_neg hb]
        refine ⟨p.1.trans e4, ?_⟩
        rw [hd4, take_snoc hz, List.filter_append, List.map_append]
        simp [hb]
    · have hlen : (zs.map V.str).length = zs.length := List.length_map _
      rw [hlen, List.take_length] at p
      exact q Dd H2 (e1.free hD) (e1.trans p.1) p.2⟩
end
end Bc

namespace Bc
open PySem L2 PyProof.Rows StX
theorem dts_mem {H : Hp} : ∀ {xs : List V} {ds : List PyData}, Dts H xs ds → ∀ x ∈ xs, ∃ d ∈ ds, Dt H x d
  | _, _, .nil, _, h => absurd h (List.not_mem_nil)
  | _, _, .cons h r, x, hx => by
    rcases List.mem_cons.mp hx with e | m
    · exact ⟨_, List.mem_cons_self, by rw [e]; exact h⟩
    · obtain ⟨d, h1, h2⟩ := dts_mem r x m
      exact ⟨d, List.mem_cons_of_mem _ h1, h2⟩
theorem merge_one {kv : List (Key × V)} {k : Key} {v : V} (h : (kv.map fun p => p.1).Nodup) : mergeK [] (kv ++ [(k, v)]) = putK kv k v := by
  unfold mergeK
  rw [List.foldl_append]
  show putK (mergeK [] kv) k v = _
  rw [merge_nd0 h]
theorem valJ {y : Str} : valV (insD y) (.inr "j") = some (.str y) := by
  unfold insD
  rw [valV_cons, if_neg (by decide +kernel), valV_cons, if_pos rfl]
section
variable {K : PySem.W.Frag} {σ : L2.St} {H : Hp} {ta tb te : TE} {t : TS} {tt : TT} {D : Ends} {u : TS} {C : Addr}
theorem q_ifK {b : Bool} (h : EvB tt σ H b) (Ok : L2.St → Hp → Prop) (k : (∀ σ' H', Ok σ' H' → u D σ' H') → ∀ H', Same H H' → (b = true → t { D with nx := u D } σ H') ∧ (b = false → Ok σ H')) (hd : ∀ σ' H', Ok σ' H' → u D σ' H') : tSeq (tIfS tt t tNext) u D σ H := h _ fun H1 e1 => by
  have z := k hd H1 e1
  cases b with
  | true => exact iteT (z.1 rfl)
  | false => exact iteF (hd _ _ (z.2 rfl))
theorem el_strs2 {a b : Str} : EvL (tLst (tCons (tC (.str a)) (tCons (tC (.str b)) tNil))) σ H (([a, b] : List Str).map V.str) := fun Q1 q1 => ⟨by show 2 ≤ sizeLine; decide, fun p hp => q1 p _ hp (same_upd hp) upd_same⟩
theorem el_strs3 {a b c : Str} : EvL (tLst (tCons (tC (.str a)) (tCons (tC (.str b)) (tCons (tC (.str c)) tNil)))) σ H (([a, b, c] : List Str).map V.str) := fun Q1 q1 => ⟨by show 3 ≤ sizeLine; decide, fun p hp => q1 p _ hp (same_upd hp) upd_same⟩
theorem evx_0 {xs : List V} {v : V} (h : EvL ta σ H xs) (h0 : xs[0]? = some v) : Ev (tOp (rIxL K) ta (tC (.int 0))) σ H v := fun Q q => h _ fun p H1 hp e1 hx => ⟨p, xs, 0, v, rfl, rfl, SqL.of hx, atI_nat (j := 0) h0, q H1 e1⟩
theorem q_asgKn {te : TE} {i : Nat} {kvs : List (Key × V)} (h : EvK te σ H kvs) (k : ∀ p H', H p = none → Same H H' → H' p = some (.dK kvs) → u D (σ.set i (some (.ref p))) H') : tSeq (tAsg te (gName i)) u D σ H := h _ fun p H' hp e hx => k p H' hp e hx
end
/-- inlets that are others -/
def isA : Ins := [("i", "a")]
def isB (y : Str) : Ins := [("i", "a"), ("k", y)]
def isC (y : Str) : Ins := [("i", "a"), ("j", y), ("k", "a")]
theorem gi_isA {n : Nat} (h : 1 ≤ n) : GI n isA := ⟨by decide +kernel, by decide +kernel, ⟨"i", List.mem_cons_self⟩, fun p hp => by rw [List.mem_singleton.mp hp]; exact a_in h⟩
theorem gi_isB {n : Nat} {y : Str} (h : 1 ≤ n) (hy : y ∈ ab.take n) : GI n (isB y) := ⟨by show (["i", "k"] : List Str).Nodup; decide +kernel, by show ∀ x ∈ (["i", "k"] : List Str), _; decide +kernel, ⟨"i", List.mem_cons_self⟩, fun p hp => by
  rcases List.mem_cons.mp hp with h' | h'
  · rw [h']; exact a_in h
  · rw [List.mem_singleton.mp h']; exact hy⟩
theorem gi_isC {n : Nat} {y : Str} (h : 1 ≤ n) (hy : y ∈ ab.take n) : GI n (isC y) := ⟨by show (["i", "j", "k"] : List Str).Nodup; decide +kernel, by show ∀ x ∈ (["i", "j", "k"] : List Str), _; decide +kernel, ⟨"i", List.mem_cons_self⟩, fun p hp => by
  rcases List.mem_cons.mp hp with h' | h'
  · rw [h']; exact a_in h
  · rcases List.mem_cons.mp h' with h' | h'
    · rw [h']; exact hy
    · rw [List.mem_singleton.mp h']; exact a_in h⟩
theorem srtD_isA : srtD (id_ isA) = id_ isA := srtD_id (List.Perm.refl _) (by decide +kernel) (by decide +kernel) fun _ h => h
theorem srtD_isB {y : Str} : srtD (id_ (isB y)) = id_ (isB y) := srtD_id (List.Perm.refl _) (by show (["i", "k"] : List Str).Nodup; decide +kernel) (by show sortedS ["i", "k"] = true; decide +kernel) fun _ h => h
theorem srtD_isC {y : Str} : srtD (id_ (isC y)) = id_ (isC y) := srtD_id (List.Perm.refl _) (by show (["i", "j", "k"] : List Str).Nodup; decide +kernel) (by show sortedS ["i", "j", "k"] = true; decide +kernel) fun _ h => h
theorem ne_isA {y : Str} : eqDK (id_ isA) (id_ (is0 y)) = false := eqDK_len (by show (1 : Nat) ≠ 2; decide)
theorem ne_isC {y : Str} : eqDK (id_ (isC y)) (id_ (is0 y)) = false := eqDK_len (by show (3 : Nat) ≠ 2; decide)
theorem ne_isB {y : Str} : eqDK (id_ (isB y)) (id_ (is0 y)) = false := eqDK_ne (k := "k") (d := .str y) (List.mem_cons_of_mem _ List.mem_cons_self) fun e h => by
  have h1 : (("k" : Str) == "i") = false := by decide +kernel
  have h2 : (("k" : Str) == "j") = false := by decide +kernel
  have h' : List.lookup ("k" : Str) ([("i", PyData.str "a"), ("j", .str y)] : List (Str × PyData)) = some e := h
  rw [List.lookup_cons, h1] at h'
  have h'' : List.lookup ("k" : Str) ([("j", .str y)] : List (Str × PyData)) = some e := h'
  rw [List.lookup_cons, h2] at h''
  cases h''
theorem look_j {y : Str} : List.lookup ("j" : Str) (id_ (is0 y)) = some (.str y) := by
  have h1 : (("j" : Str) == "i") = false := by decide +kernel
  show List.lookup ("j" : Str) ([("i", PyData.str "a"), ("j", .str y)] : List (Str × PyData)) = _
  rw [List.lookup_cons, h1]
  show List.lookup ("j" : Str) ([("j", .str y)] : List (Str × PyData)) = _
  rw [List.lookup_cons]
  simp
theorem ne_is0 {z y : Str} (h : z ≠ y) : eqDK (id_ (is0 z)) (id_ (is0 y)) = false := eqDK_ne (k := "j") (d := .str z) (List.mem_cons_of_mem _ List.mem_cons_self) fun e he => by
  rw [look_j] at he
  cases he
  rw [eqv_str]
  exact decide_eq_false h
theorem other_y {r : Nat} {y : Str} (h1 : 1 ≤ r) : ∃ z ∈ ab.take (1 + r), z ≠ y := by
  by_cases h : y = "a"
  · refine ⟨"b", ?_, by rw [h]; decide +kernel⟩
    have e : 1 + r = (r - 1) + 2 := by omega
    rw [e]
    exact List.mem_cons_of_mem _ List.mem_cons_self
  · exact ⟨"a", a_in (by omega), fun e => h e.symm⟩
section
variable {K : PySem.W.Frag} {σ : L2.St} {H : Hp} {ta tb te : TE} {D : Ends} {u : TS} {C : Addr}
theorem q_dputD {td ty tv : TE} {a : Addr} {kvs : List (Key × V)} {k : Key} {d : PyData} (hv : EvD tv σ H d) (hd : ∀ H', Same H H' → Ev td σ H' (.ref a)) (hk : ∀ H', Same H H' → Ev ty σ H' (kV k)) (h : H a = some (.dK kvs)) (hl : kvs.length < 100000)
    (q : ∀ v H', Same H H' → Dt H' v d → u D σ (upd H' a (.dK (putK kvs k v)))) : tSeq (sDPut td ty tv) u D σ H := s_dputD (D := { D with nx := u D }) hv hd hk h hl q
theorem q_par3R {t1 t2 t3 : TE} {i j l : Nat} {k1 k2 : List (Key × V)} {xs : List V} (h1 : EvK t1 σ H k1) (h2 : ∀ H', Same H H' → EvK t2 σ H' k2) (h3 : ∀ H', Same H H' → EvL t3 σ H' xs)
    (k : ∀ p1 p2 p3 H1 H2 H3, H p1 = none → Same H H1 → H1 p1 = some (.dK k1) → H1 p2 = none → Same H1 H2 → H2 p2 = some (.dK k2) → H2 p3 = none → Same H2 H3 → H3 p3 = some (.lst xs) → u D (((σ.set i (some (.ref p1))).set j (some (.ref p2))).set l (some (.ref p3))) H3) :
    tSeq (tPar3 i j l (tCons t1 (tCons t2 (tCons t3 tNil)))) u D σ H :=
  h1 _ fun p1 H1 hp1 e1 g1 => h2 H1 e1 _ fun p2 H2 hp2 e2 g2 => h3 H2 (e1.trans e2) _ fun p3 H3 hp3 e3 g3 => ⟨_, _, _, rfl, k p1 p2 p3 H1 H2 H3 hp1 e1 g1 hp2 e2 g2 hp3 e3 g3⟩
theorem q_app {ta te : TE} {l : Addr} {xs : List V} {v : V} (hl : H l = some (.lst xs)) (ha : Ev ta σ H (.ref l)) (hv : ∀ H', Same H H' → Ev te σ H' v) (hz : xs.length < 100000)
    (k : ∀ H', Same H H' → u D σ (upd H' l (.lst (xs ++ [v])))) : tSeq (tDrop (tBM K "list" rAppend ta (tCons te tNil))) u D σ H := s_app (D := { D with nx := u D }) hl ha hv hz k
theorem NetNew.mut {H0 H : Hp} {x p : Addr} {ks : Knots} {is : Ins} {os : List Str} {o o0 : HO} (n : NetNew H0 H C x (kd ks) (id_ is) os) (h0 : H0 p = some o0) (hp : (∃ kvs, H p = some (.dK kvs)) ∨ ∃ xs, H p = some (.lst xs)) : NetNew H0 (upd H p o) C x (kd ks) (id_ is) os := by
  obtain ⟨dx, ka, ia, oa, kv, iv, h1, h2, h3, h4, h5, h6, h7, h8⟩ := n.ex
  have nx : x ≠ p := fun e => by
    rw [e] at h1
    rcases hp with ⟨_, h⟩ | ⟨_, h⟩ <;> rw [h] at h1 <;> cases h1
  have nk : ka ≠ p := fun e => by rw [e, h0] at h7; cases h7
  have ni : ia ≠ p := fun e => by rw [e, h0] at h8; cases h8
  have no : oa ≠ p := fun e => by
    rw [e] at h6
    rcases hp with ⟨_, h⟩ | ⟨_, h⟩ <;> rw [h] at h6 <;> cases h6
  have ts : Tsm H (upd H p o) := Tsm.upd fun xs h' => by rcases hp with ⟨_, h⟩ | ⟨_, h⟩ <;> rw [h] at h' <;> cases h'
  exact ⟨dx, ka, ia, oa, kv, iv, by rw [upd_ne nx]; exact h1, by rw [upd_ne nk]; exact h2, Dk.kd_ts ts h3, by rw [upd_ne ni]; exact h4, id_any h5, by rw [upd_ne no]; exact h6, h7, h8⟩
end
def tdd (zs : List Str) : List (Str × PyData) := zs.map fun z => (z, if z = "a" then .int 99 else .int 0)
theorem tdd_keys (zs : List Str) : (tdd zs).map (fun p => p.1) = zs := by
  unfold tdd
  rw [List.map_map]
  exact List.map_id _
theorem dk_told {zs : List Str} (h : ("a" : Str) ∈ zs) (H : Hp) : Dk H (putK (zeros zs) (.inr "a") (.int 99)) (tdd zs) := by
  have e : ((zeros zs).any fun q => decide (q.1 = (.inr "a" : Key))) = true := by
    rw [List.any_eq_true]
    exact ⟨(.inr "a", .int 0), List.mem_map.mpr ⟨"a", h, rfl⟩, decide_eq_true rfl⟩
  unfold putK
  rw [if_pos e]
  clear e h
  induction zs with
  | nil => exact .nil
  | cons z r ih =>
    show Dk H ((if (Sum.inr z : Key) = .inr "a" then ((Sum.inr z : Key), V.int 99) else (.inr z, .int 0)) :: _) ((z, if z = "a" then PyData.int 99 else .int 0) :: _)
    by_cases hz : z = "a"
    · rw [if_pos (by rw [hz]), if_pos hz]
      exact .cons (.int 99) ih
    · rw [if_neg (fun q => hz (Sum.inr.inj q)), if_neg hz]
      exact .cons (.int 0) ih
theorem zd_shaped (zs : List Str) : ∀ p ∈ zd zs, SeqAt.shaped p.2 = true := fun p hp => by
  obtain ⟨z, _, rfl⟩ := List.mem_map.mp hp
  rfl
theorem tdd_shaped (zs : List Str) : ∀ p ∈ tdd zs, SeqAt.shaped p.2 = true := fun p hp => by
  obtain ⟨z, _, rfl⟩ := List.mem_map.mp hp
  show SeqAt.shaped (if z = "a" then .int 99 else .int 0) = true
  split <;> rfl
theorem zd_refl {zs : List Str} (hn : zs.Nodup) : eqDK (zd zs) (zd zs) = true := eqDK_refl (by rw [zd_keys]; exact hn) fun p hp => by
  obtain ⟨z, _, rfl⟩ := List.mem_map.mp hp
  rfl
theorem zd_told {zs : List Str} (hn : zs.Nodup) (h : ("a" : Str) ∈ zs) : eqDK (zd zs) (tdd zs) = false := eqDK_ne (k := "a") (d := .int 0) (List.mem_map.mpr ⟨"a", h, rfl⟩) fun e he => by
  have hm : (("a" : Str), PyData.int 99) ∈ tdd zs := List.mem_map.mpr ⟨"a", h, by rw [if_pos rfl]⟩
  rw [lookup_nd (by rw [tdd_keys]; exact hn) hm] at he
  cases he
  rfl
end Bc

/-! rows that are done again and again: the shortest ones -/
namespace Tidy
variable {α : Type}
/-- the place behind n drops -/
def st (F T n : Nat) : Nat := if n < F then n else F + (n - F) % T
/-- what is done behind n drops -/
def sq (f t : List α) (n : Nat) : Option α := (f ++ t)[st f.length t.length n]?
theorem st_lt {F T n : Nat} (h : 0 < T) : st F T n < F + T := by
  unfold st
  split
  · omega
  · have := Nat.mod_lt (n - F) h
    omega
theorem st_id {F T n : Nat} (h : n < F + T) : st F T n = n := by
  unfold st
  split
  · rfl
  · rw [Nat.mod_eq_of_lt (by omega)]
    omega
theorem st_add {F T n m : Nat} : st F T (st F T n + m) = st F T (n + m) := by
  by_cases h : n < F
  · have e : st F T n = n := by unfold st; rw [if_pos h]
    rw [e]
  · have e : st F T n = F + (n - F) % T := by unfold st; rw [if_neg h]
    rw [e]
    unfold st
    rw [if_neg (by omega), if_neg (by omega)]
    have e1 : F + (n - F) % T + m - F = (n - F) % T + m := by omega
    have e2 : n + m - F = (n - F) + m := by omega
    rw [e1, e2, Nat.mod_add_mod]
theorem st_succ {F T n : Nat} (h : 0 < T) : st F T (n + 1) = if st F T n + 1 < F + T then st F T n + 1 else F := by
  have e := st_add (F := F) (T := T) (n := n) (m := 1)
  have l := st_lt (F := F) (n := n) h
  rw [← e]
  split
  · rename_i q
    exact st_id q
  · have : st F T n + 1 = F + T := by omega
    rw [this]
    unfold st
    rw [if_neg (by omega)]
    have e2 : F + T - F = T := by omega
    rw [e2, Nat.mod_self]
    rfl
theorem sq_lo {f t : List α} {n : Nat} (h : n < f.length) : sq f t n = f[n]? := by
  unfold sq st
  rw [if_pos h, List.getElem?_append_left h]
theorem sq_hi {f t : List α} {n : Nat} (h : f.length ≤ n) : sq f t n = t[(n - f.length) % t.length]? := by
  unfold sq st
  rw [if_neg (by omega), List.getElem?_append_right (by omega)]
  congr 1
  omega
theorem sq_st {f t : List α} {n m : Nat} : sq f t (st f.length t.length n + m) = sq f t (n + m) := by
  unfold sq
  rw [st_add]
theorem sq_per {f t : List α} {n : Nat} (h : f.length ≤ n) : sq f t (n + t.length) = sq f t n := by
  rw [sq_hi h, sq_hi (by omega)]
  have e : n + t.length - f.length = (n - f.length) + t.length := by omega
  rw [e, Nat.add_mod_right]
theorem sq_perK {f t : List α} {n : Nat} (h : f.length ≤ n) : ∀ k, sq f t (n + t.length * k) = sq f t n
  | 0 => rfl
  | k + 1 => by
    have e : n + t.length * (k + 1) = (n + t.length * k) + t.length := by rw [Nat.mul_succ]; omega
    rw [e, sq_per (by omega), sq_perK h k]
theorem sq_some {f t : List α} {n : Nat} (h : 0 < t.length) : ∃ x, sq f t n = some x := by
  unfold sq
  have := st_lt (F := f.length) (n := n) h
  exact ⟨_, List.getElem?_eq_getElem (by rw [List.length_append]; exact this)⟩
/-- no shorter one, done several times -/
def Prim (t : List α) : Prop := ∀ L, 0 < L → L < t.length → L ∣ t.length → ¬ ∀ i, i + L < t.length → t[i + L]? = t[i]?
structure TidyR (f t : List α) : Prop where
  pos : 0 < t.length
  prim : Prim t
  last : 0 < f.length → f[f.length - 1]? ≠ t[t.length - 1]?
/-! ### steps that lead to the same -/
theorem per_mul {u : Nat → Option α} {a : Nat} (h : ∀ j, u (j + a) = u j) : ∀ k j, u (j + a * k) = u j
  | 0, j => rfl
  | k + 1, j => by
    have e : j + a * (k + 1) = (j + a * k) + a := by rw [Nat.mul_succ]; omega
    rw [e, h, per_mul h k j]
theorem per_gcd {u : Nat → Option α} (a b : Nat) : (∀ j, u (j + a) = u j) → (∀ j, u (j + b) = u j) → ∀ j, u (j + Nat.gcd a b) = u j := by
  refine Nat.gcd.induction (P := fun a b => (∀ j, u (j + a) = u j) → (∀ j, u (j + b) = u j) → ∀ j, u (j + Nat.gcd a b) = u j) a b (fun n _ h j => ?_) (fun m n hm ih h1 h2 => ?_)
  · rw [Nat.gcd_zero_left]
    exact h j
  · rw [Nat.gcd_rec]
    refine ih (fun j => ?_) h1
    have e := per_mul h1 (n / m) (j + n % m)
    have e2 : j + n % m + m * (n / m) = j + n := by
      have := Nat.mod_add_div n m
      omega
    rw [e2] at e
    rw [← e, h2]
theorem rot_div {f t : List α} (hp : 0 < t.length) (pr : Prim t) {d : Nat} (h : ∀ j, f.length ≤ j → sq f t (j + d) = sq f t j) : t.length ∣ d := by
  have h1 : ∀ j, (fun j => sq f t (f.length + j)) (j + d) = (fun j => sq f t (f.length + j)) j := fun j => by
    show sq f t (f.length + (j + d)) = sq f t (f.length + j)
    rw [← Nat.add_assoc]
    exact h _ (by omega)
  have h2 : ∀ j, (fun j => sq f t (f.length + j)) (j + t.length) = (fun j => sq f t (f.length + j)) j := fun j => by
    show sq f t (f.length + (j + t.length)) = sq f t (f.length + j)
    rw [← Nat.add_assoc]
    exact sq_per (by omega)
  have g := per_gcd (u := fun j => sq f t (f.length + j)) d t.length h1 h2
  have gp : 0 < Nat.gcd d t.length := Nat.gcd_pos_of_pos_right _ hp
  have gd : Nat.gcd d t.length ∣ t.length := Nat.gcd_dvd_right _ _
  by_cases e : Nat.gcd d t.length = t.length
  · rw [← e]
    exact Nat.gcd_dvd_left _ _
  · have lt : Nat.gcd d t.length < t.length := Nat.lt_of_le_of_ne (Nat.le_of_dvd hp gd) e
    refine absurd (fun i hi => ?_) (pr _ gp lt gd)
    have q := g i
    have q1 : sq f t (f.length + (i + Nat.gcd d t.length)) = t[i + Nat.gcd d t.length]? := by
      rw [sq_hi (by omega), Nat.mod_eq_of_lt (by omega)]
      congr 1
      omega
    have q2 : sq f t (f.length + i) = t[i]? := by
      rw [sq_hi (by omega), Nat.mod_eq_of_lt (by omega)]
      congr 1
      omega
    rw [← q1, ← q2]
    exact q
theorem sq_before {f t : List α} (h : 0 < f.length) (ht : 0 < t.length) : sq f t (f.length - 1) = f[f.length - 1]? ∧ sq f t (f.length - 1 + t.length) = t[t.length - 1]? := by
  refine ⟨sq_lo (by omega), ?_⟩
  rw [sq_hi (by omega)]
  congr 1
  have e : f.length - 1 + t.length - f.length = t.length - 1 := by omega
  rw [e, Nat.mod_eq_of_lt (by omega)]
/-- two places of tidy rows do not go on alike -/
theorem apart {f t : List α} (T : TidyR f t) {a b N : Nat} (hab : a < b) (hb : b < f.length + t.length) (hN : f.length + t.length ≤ N) : ¬ ∀ i, i < N → sq f t (a + i) = sq f t (b + i) := by
  intro h
  have hp := T.pos
  have key : ∀ m, f.length ≤ m → a ≤ m → m ≤ a + f.length → ∀ n j, j = m + n → sq f t (j + (b - a)) = sq f t j := by
    intro m h1 h2 h3 n
    refine Nat.strongRecOn n (fun n ih => ?_)
    intro j e
    by_cases hj : n < t.length
    · have q := h (j - a) (by omega)
      have e1 : a + (j - a) = j := by omega
      have e2 : b + (j - a) = j + (b - a) := by omega
      rw [e1, e2] at q
      exact q.symm
    · have q := ih (n - t.length) (by omega) (m + (n - t.length)) rfl
      have e1 : j = m + (n - t.length) + t.length := by omega
      have e2 : j + (b - a) = m + (n - t.length) + (b - a) + t.length := by omega
      rw [e2, e1, sq_per (by omega), sq_per (by omega)]
      exact q
  have all : ∀ j, f.length ≤ j → sq f t (j + (b - a)) = sq f t j := by
    intro j hj
    have k1 := sq_perK (f := f) (t := t) (n := j) hj a
    have k2 := sq_perK (f := f) (t := t) (n := j + (b - a)) (by omega) a
    have ge : a ≤ t.length * a := Nat.le_mul_of_pos_left _ hp
    have m : ∃ m, f.length ≤ m ∧ a ≤ m ∧ m ≤ a + f.length ∧ m ≤ j + t.length * a := by
      by_cases q : a ≤ f.length
      · exact ⟨f.length, by omega, by omega, by omega, by omega⟩
      · exact ⟨a, by omega, by omega, by omega, by omega⟩
    obtain ⟨m, m1, m2, m3, m4⟩ := m
    have q := key m m1 m2 m3 (j + t.length * a - m) (j + t.length * a) (by omega)
    have e : j + t.length * a + (b - a) = j + (b - a) + t.length * a := by omega
    rw [e, k1, k2] at q
    exact q
  obtain ⟨k, hk⟩ := rot_div hp T.prim all
  have hk0 : k ≠ 0 := fun z => by rw [z, Nat.mul_zero] at hk; omega
  have hge : t.length ≤ b - a := by
    rw [hk]
    exact Nat.le_mul_of_pos_right _ (Nat.pos_of_ne_zero hk0)
  have hf : 0 < f.length := by omega
  have q := h (f.length - 1 - a) (by omega)
  have e1 : a + (f.length - 1 - a) = f.length - 1 := by omega
  have e2 : b + (f.length - 1 - a) = (f.length - 1 + t.length) + t.length * (k - 1) := by
    have : t.length * k = t.length * (k - 1) + t.length := by
      rw [← Nat.mul_succ]
      congr 1
      omega
    omega
  obtain ⟨s1, s2⟩ := sq_before (t := t) hf hp
  rw [e1, e2, sq_perK (by omega), s1, s2] at q
  exact T.last hf q
/-- tidy rows are told by what they do -/
theorem unique1 {f t f' t' : List α} (T : TidyR f t) (T' : TidyR f' t') (h : ∀ n, sq f t n = sq f' t' n) (le : f.length ≤ f'.length) : f.length = f'.length ∧ t.length = t'.length := by
  have hp := T.pos
  have hp' := T'.pos
  have d1 : t'.length ∣ t.length := rot_div hp' T'.prim fun j hj => by
    rw [← h, ← h]
    exact sq_per (by omega)
  have d2 : t.length ∣ t'.length := rot_div hp T.prim fun j hj => by
    have ge : f'.length ≤ t.length * f'.length := Nat.le_mul_of_pos_left _ hp
    have k1 := sq_perK (f := f) (t := t) (n := j) hj f'.length
    have k2 := sq_perK (f := f) (t := t) (n := j + t'.length) (by omega) f'.length
    rw [← k1, ← k2, h, h]
    have e : j + t'.length + t.length * f'.length = (j + t.length * f'.length) + t'.length := by omega
    rw [e]
    exact sq_per (by omega)
  have et : t.length = t'.length := Nat.dvd_antisymm d2 d1
  refine ⟨?_, et⟩
  by_cases e : f.length = f'.length
  · exact e
  · have hf : 0 < f'.length := by omega
    obtain ⟨s1, s2⟩ := sq_before (t := t') hf hp'
    refine absurd ?_ (T'.last hf)
    rw [← s1, ← s2, ← h, ← h, ← et]
    exact (sq_per (by omega)).symm
theorem unique {f t f' t' : List α} (T : TidyR f t) (T' : TidyR f' t') (h : ∀ n, sq f t n = sq f' t' n) : f = f' ∧ t = t' := by
  have l : f.length = f'.length ∧ t.length = t'.length := by
    rcases Nat.le_total f.length f'.length with q | q
    · exact unique1 T T' h q
    · have z := unique1 T' T (fun n => (h n).symm) q
      exact ⟨z.1.symm, z.2.symm⟩
  obtain ⟨l1, l2⟩ := l
  have hp := T.pos
  refine ⟨List.ext_getElem? fun i => ?_, List.ext_getElem? fun i => ?_⟩
  · by_cases hi : i < f.length
    · have q := h i
      rw [sq_lo hi, sq_lo (by omega)] at q
      exact q
    · rw [List.getElem?_eq_none_iff.mpr (by omega), List.getElem?_eq_none_iff.mpr (by omega)]
  · by_cases hi : i < t.length
    · have q := h (f.length + i)
      rw [sq_hi (by omega), sq_hi (by omega)] at q
      have e1 : (f.length + i - f.length) % t.length = i := by rw [Nat.mod_eq_of_lt (by omega)]; omega
      have e2 : (f.length + i - f'.length) % t'.length = i := by rw [Nat.mod_eq_of_lt (by omega)]; omega
      rw [e1, e2] at q
      exact q
    · rw [List.getElem?_eq_none_iff.mpr (by omega), List.getElem?_eq_none_iff.mpr (by omega)]
end Tidy

/-! the shortest rows, as they are found -/
namespace Tidy
variable {α : Type} [DecidableEq α]
/-- done so many times -/
def rep (k : Nat) (l : List α) : List α := (List.replicate k l).flatten
omit [DecidableEq α] in
theorem rep_len (k : Nat) (l : List α) : (rep k l).length = k * l.length := by
  unfold rep
  rw [List.length_flatten, List.map_replicate, List.sum_replicate_nat]
omit [DecidableEq α] in
theorem rep_get {l : List α} : ∀ {k i : Nat}, i < k * l.length → (rep k l)[i]? = l[i % l.length]?
  | 0, i, h => by omega
  | k + 1, i, h => by
    show (l ++ rep k l)[i]? = _
    by_cases hi : i < l.length
    · rw [List.getElem?_append_left hi, Nat.mod_eq_of_lt hi]
    · rw [List.getElem?_append_right (by omega), rep_get (by rw [Nat.succ_mul] at h; omega)]
      have e : i = (i - l.length) + l.length := by omega
      conv => rhs; rw [e, Nat.add_mod_right]
/-- done again each M drops -/
def Again (t : List α) (M : Nat) : Prop := ∀ i, i + M < t.length → t[i + M]? = t[i]?
omit [DecidableEq α] in
theorem again_mod {t : List α} {M : Nat} (h : Again t M) : ∀ k i, i + M * k < t.length → t[i + M * k]? = t[i]?
  | 0, i, _ => rfl
  | k + 1, i, hi => by
    have e : i + M * (k + 1) = (i + M * k) + M := by rw [Nat.mul_succ]; omega
    rw [e] at hi ⊢
    rw [h _ hi, again_mod h k i (by omega)]
omit [DecidableEq α] in
theorem again_low {t : List α} {M i : Nat} (h : Again t M) (hi : i < t.length) : t[i]? = t[i % M]? := by
  have e := Nat.mod_add_div i M
  have q := again_mod h (i / M) (i % M) (by omega)
  rw [e] at q
  exact q
omit [DecidableEq α] in
theorem rep_iff {t : List α} {M : Nat} (hM : 0 < M) (hd : M ∣ t.length) : t = rep (t.length / M) (t.take M) ↔ Again t M := by
  by_cases ht : t.length = 0
  · have e : t = [] := List.length_eq_zero_iff.mp ht
    subst e
    refine ⟨fun _ i hi => by simp at hi, fun _ => ?_⟩
    show [] = rep (0 / M) _
    rw [Nat.zero_div]
    rfl
  have hle : M ≤ t.length := Nat.le_of_dvd (by omega) hd
  have tl : (t.take M).length = M := by rw [List.length_take]; omega
  have dm : t.length / M * M = t.length := Nat.div_mul_cancel hd
  constructor
  · intro e i hi
    rw [e]
    rw [rep_get (by rw [tl, dm]; omega), rep_get (by rw [tl, dm]; omega), tl, Nat.add_mod_right]
  · intro h
    refine List.ext_getElem? fun i => ?_
    by_cases hi : i < t.length
    · rw [rep_get (by rw [tl, dm]; exact hi), tl, List.getElem?_take_of_lt (Nat.mod_lt _ hM)]
      exact again_low h hi
    · rw [List.getElem?_eq_none_iff.mpr (by omega), List.getElem?_eq_none_iff.mpr (by rw [rep_len, tl, dm]; omega)]
/-- the test of a length -/
def good (t : List α) (M : Nat) : Bool := decide (t.length % M = 0) && decide (t = rep (t.length / M) (t.take M))
/-- the first length from M on, n lengths -/
def lpf (t : List α) : Nat → Nat → Nat
  | _, 0 => t.length
  | M, n + 1 => if good t M then M else lpf t (M + 1) n
def lp (t : List α) : Nat := lpf t 1 (t.length - 1)
theorem good_iff {t : List α} {M : Nat} (hM : 0 < M) : good t M = true ↔ M ∣ t.length ∧ Again t M := by
  unfold good
  rw [Bool.and_eq_true, decide_eq_true_iff, decide_eq_true_iff]
  constructor
  · intro ⟨h1, h2⟩
    have d := Nat.dvd_of_mod_eq_zero h1
    exact ⟨d, (rep_iff hM d).mp h2⟩
  · intro ⟨d, h⟩
    exact ⟨Nat.mod_eq_zero_of_dvd d, (rep_iff hM d).mpr h⟩
theorem lpf_is {t : List α} : ∀ {n M : Nat}, 0 < M → 0 < t.length → M + n = t.length →
    (0 < lpf t M n ∧ lpf t M n ∣ t.length ∧ Again t (lpf t M n)) ∧ ∀ L, M ≤ L → L < lpf t M n → good t L = false
  | 0, M, hM, ht, e => ⟨⟨ht, Nat.dvd_refl _, fun i hi => by
      have : lpf t M 0 = t.length := rfl
      omega⟩, fun L h1 h2 => by
      have : lpf t M 0 = t.length := rfl
      omega⟩
  | n + 1, M, hM, ht, e => by
    unfold lpf
    by_cases g : good t M = true
    · rw [if_pos g]
      obtain ⟨d, h⟩ := (good_iff hM).mp g
      exact ⟨⟨hM, d, h⟩, fun L h1 h2 => by omega⟩
    · rw [if_neg g]
      obtain ⟨h1, h2⟩ := lpf_is (t := t) (n := n) (M := M + 1) (by omega) ht (by omega)
      refine ⟨h1, fun L h3 h4 => ?_⟩
      by_cases q : L = M
      · rw [q]
        exact Bool.eq_false_iff.mpr g
      · exact h2 L (by omega) h4
theorem lp_is {t : List α} (ht : 0 < t.length) : 0 < lp t ∧ lp t ∣ t.length ∧ Again t (lp t) ∧ ∀ L, 0 < L → L < lp t → ¬ (L ∣ t.length ∧ Again t L) := by
  obtain ⟨⟨h1, h2, h3⟩, h4⟩ := lpf_is (t := t) (n := t.length - 1) (M := 1) (by omega) ht (by omega)
  refine ⟨h1, h2, h3, fun L l1 l2 q => ?_⟩
  have z := h4 L l1 l2
  rw [(good_iff l1).mpr q] at z
  cases z
/-- the shortest turn -/
def per (t : List α) : List α := t.take (lp t)
theorem per_len {t : List α} (ht : 0 < t.length) : (per t).length = lp t := by
  obtain ⟨h1, h2, _⟩ := lp_is ht
  unfold per
  rw [List.length_take, Nat.min_eq_left (Nat.le_of_dvd ht h2)]
theorem per_get {t : List α} (ht : 0 < t.length) {i : Nat} (hi : i < t.length) : t[i]? = (per t)[i % (per t).length]? := by
  obtain ⟨h1, h2, h3, _⟩ := lp_is ht
  rw [per_len ht]
  unfold per
  rw [List.getElem?_take_of_lt (Nat.mod_lt _ h1)]
  exact again_low h3 hi
omit [DecidableEq α] in
/-- what is done again within goes on so -/
theorem again_cyc {t : List α} {M : Nat} (hM : 0 < M) (hd : M ∣ t.length) (ht : 0 < t.length) (h : Again t M) (x : Nat) : t[(x + M) % t.length]? = t[x % t.length]? := by
  rw [again_low h (Nat.mod_lt _ ht), again_low h (Nat.mod_lt x ht), Nat.mod_mod_of_dvd _ hd, Nat.mod_mod_of_dvd _ hd, Nat.add_mod_right]
theorem per_prim {t : List α} (ht : 0 < t.length) : Prim (per t) := by
  intro L l1 l2 d h
  obtain ⟨h1, h2, h3, h4⟩ := lp_is ht
  have pl := per_len ht
  rw [pl] at l2 d
  have dt : L ∣ t.length := Nat.dvd_trans d h2
  have pos : 0 < (per t).length := by omega
  refine h4 L l1 l2 ⟨dt, fun i hi => ?_⟩
  rw [per_get ht hi, per_get ht (by omega)]
  exact again_cyc l1 (by rw [pl]; exact d) pos h i
/-- what the turn does, the front's places too -/
def un (p : List α) (F n : Nat) : Option α := p[(n + F * p.length - F) % p.length]?
omit [DecidableEq α] in
theorem un_hi {p : List α} {F n : Nat} (h : F ≤ n) (hp : 0 < p.length) : un p F n = p[(n - F) % p.length]? := by
  unfold un
  have e : n + F * p.length - F = (n - F) + F * p.length := by omega
  rw [e, Nat.add_mul_mod_self_right]
theorem sq_un {f t : List α} (ht : 0 < t.length) (n : Nat) : sq f t n = if n < f.length then f[n]? else un (per t) f.length n := by
  obtain ⟨h1, h2, _⟩ := lp_is ht
  have pl := per_len ht
  by_cases h : n < f.length
  · rw [if_pos h, sq_lo h]
  · rw [if_neg h, sq_hi (by omega), un_hi (by omega) (by omega), per_get ht (Nat.mod_lt _ ht)]
    rw [Nat.mod_mod_of_dvd _ (by rw [pl]; exact h2)]
/-- how much is left of the front -/
def bh (f p : List α) : Nat → Nat
  | 0 => 0
  | b + 1 => if f[b]? = un p f.length b then bh f p b else b + 1
theorem bh_is {f p : List α} : ∀ b, bh f p b ≤ b ∧ (∀ i, bh f p b ≤ i → i < b → f[i]? = un p f.length i) ∧ (0 < bh f p b → f[bh f p b - 1]? ≠ un p f.length (bh f p b - 1))
  | 0 => ⟨Nat.le_refl _, fun i _ h => by omega, fun h => by
      have : bh f p 0 = 0 := rfl
      omega⟩
  | b + 1 => by
    unfold bh
    by_cases e : f[b]? = un p f.length b
    · rw [if_pos e]
      obtain ⟨h1, h2, h3⟩ := bh_is (f := f) (p := p) b
      refine ⟨by omega, fun i l1 l2 => ?_, h3⟩
      by_cases q : i = b
      · rw [q]
        exact e
      · exact h2 i l1 (by omega)
    · rw [if_neg e]
      exact ⟨Nat.le_refl _, fun i l1 l2 => by omega, fun _ => e⟩
/-- the turn, begun elsewhere -/
def rot (p : List α) (k : Nat) : List α := p.drop k ++ p.take k
omit [DecidableEq α] in
theorem rot_len {p : List α} {k : Nat} (h : k ≤ p.length) : (rot p k).length = p.length := by
  unfold rot
  rw [List.length_append, List.length_drop, List.length_take]
  omega
omit [DecidableEq α] in
theorem rot_get {p : List α} {k i : Nat} (h : k ≤ p.length) (hi : i < p.length) : (rot p k)[i]? = p[(k + i) % p.length]? := by
  unfold rot
  by_cases q : i < p.length - k
  · rw [List.getElem?_append_left (by rw [List.length_drop]; exact q), List.getElem?_drop, Nat.mod_eq_of_lt (by omega)]
  · rw [List.getElem?_append_right (by rw [List.length_drop]; omega), List.length_drop, List.getElem?_take_of_lt (by omega)]
    congr 1
    have e : k + i = (i - (p.length - k)) + p.length := by omega
    rw [e, Nat.add_mod_right, Nat.mod_eq_of_lt (by omega)]
omit [DecidableEq α] in
theorem rot_cyc {p : List α} {k : Nat} (h : k ≤ p.length) (hp : 0 < p.length) (x : Nat) : (rot p k)[x % (rot p k).length]? = p[(k + x) % p.length]? := by
  rw [rot_len h, rot_get h (Nat.mod_lt _ hp), Nat.add_mod_mod]
/-- the shortest rows -/
def shb (f t : List α) : Nat := bh f (per t) f.length
def sht (f t : List α) : Nat := (shb f t + f.length * (per t).length - f.length) % (per t).length
def shr (f t : List α) : List α × List α := (f.take (shb f t), rot (per t) (sht f t))
theorem shr_is {f t : List α} (ht : 0 < t.length) : TidyR (shr f t).1 (shr f t).2 ∧ (∀ n, sq (shr f t).1 (shr f t).2 n = sq f t n) ∧ (shr f t).1.length ≤ f.length ∧ (shr f t).2.length ≤ t.length := by
  obtain ⟨h1, h2, h3, h4⟩ := lp_is ht
  have pl := per_len ht
  have pp : 0 < (per t).length := by omega
  obtain ⟨b1, b2, b3⟩ := bh_is (f := f) (p := per t) f.length
  have hk : sht f t < (per t).length := Nat.mod_lt _ pp
  have l1 : (shr f t).1.length = shb f t := by
    show (f.take (shb f t)).length = _
    rw [List.length_take]
    exact Nat.min_eq_left b1
  have l2 : (shr f t).2.length = (per t).length := rot_len (Nat.le_of_lt hk)
  have mul : f.length ≤ f.length * (per t).length := Nat.le_mul_of_pos_right _ pp
  have rg : ∀ x, (shr f t).2[x % (shr f t).2.length]? = un (per t) f.length (shb f t + x) := fun x => by
    rw [show (shr f t).2[x % (shr f t).2.length]? = _ from rot_cyc (Nat.le_of_lt hk) pp x]
    unfold un sht
    congr 1
    rw [Nat.mod_add_mod]
    congr 1
    omega
  have sq1 : ∀ n, sq (shr f t).1 (shr f t).2 n = sq f t n := fun n => by
    rw [sq_un ht]
    by_cases hn : n < shb f t
    · rw [sq_lo (by omega), if_pos (by have : shb f t ≤ f.length := b1; omega)]
      exact List.getElem?_take_of_lt hn
    · rw [sq_hi (by omega), rg, l1]
      have e : shb f t + (n - shb f t) = n := by omega
      rw [e]
      split
      · rename_i q
        exact (b2 n (by unfold shb at hn; omega) q).symm
      · rfl
  refine ⟨⟨by omega, ?_, fun hf => ?_⟩, sq1, by rw [l1]; exact b1, by rw [l2, pl]; exact Nat.le_of_dvd ht h2⟩
  · intro L p1 p2 d h
    rw [l2] at p2 d
    have c := again_cyc (t := (shr f t).2) p1 (by rw [l2]; exact d) (by omega) h
    refine per_prim ht L p1 p2 d fun i hi => ?_
    have k1 := c (i + ((per t).length - sht f t))
    rw [show (shr f t).2[(i + ((per t).length - sht f t) + L) % (shr f t).2.length]? = _ from rot_cyc (Nat.le_of_lt hk) pp _, show (shr f t).2[(i + ((per t).length - sht f t)) % (shr f t).2.length]? = _ from rot_cyc (Nat.le_of_lt hk) pp _] at k1
    have e1 : sht f t + (i + ((per t).length - sht f t) + L) = (i + L) + (per t).length := by omega
    have e2 : sht f t + (i + ((per t).length - sht f t)) = i + (per t).length := by omega
    rw [e1, e2, Nat.add_mod_right, Nat.add_mod_right, Nat.mod_eq_of_lt hi, Nat.mod_eq_of_lt (by omega)] at k1
    exact k1
  · rw [l1] at hf ⊢
    have q1 : (shr f t).1[shb f t - 1]? = f[shb f t - 1]? := List.getElem?_take_of_lt (by omega)
    have q2 : (shr f t).2[(shr f t).2.length - 1]? = un (per t) f.length (shb f t - 1) := by
      have z := rg ((shr f t).2.length - 1)
      rw [Nat.mod_eq_of_lt (by omega)] at z
      rw [z]
      unfold un
      congr 1
      have e : shb f t + ((shr f t).2.length - 1) + f.length * (per t).length - f.length = (shb f t - 1 + f.length * (per t).length - f.length) + (per t).length := by omega
      rw [e, Nat.add_mod_right]
    rw [q1, q2]
    exact b3 hf
theorem shr_mem {f t : List α} (ht : 0 < t.length) : (∀ x ∈ (shr f t).1, x ∈ f) ∧ ∀ x, x ∈ (shr f t).2 ↔ x ∈ t := by
  obtain ⟨h1, h2, h3, h4⟩ := lp_is ht
  have pl := per_len ht
  refine ⟨fun x hx => List.mem_of_mem_take hx, fun x => ?_⟩
  have e1 : x ∈ (shr f t).2 ↔ x ∈ per t := by
    show x ∈ (per t).drop _ ++ (per t).take _ ↔ _
    rw [List.mem_append, Or.comm, ← List.mem_append, List.take_append_drop]
  rw [e1]
  constructor
  · exact fun hx => List.mem_of_mem_take hx
  · intro hx
    obtain ⟨i, hi, e⟩ := List.getElem_of_mem hx
    have q := per_get ht hi
    rw [List.getElem?_eq_getElem hi, e] at q
    exact List.mem_of_getElem? q.symm
/-- alike rows have the same shortest ones -/
theorem shr_eq {f t f' t' : List α} (ht : 0 < t.length) (ht' : 0 < t'.length) (h : ∀ n, sq f t n = sq f' t' n) : shr f t = shr f' t' := by
  obtain ⟨a1, a2, _⟩ := shr_is (f := f) ht
  obtain ⟨b1, b2, _⟩ := shr_is (f := f') ht'
  obtain ⟨e1, e2⟩ := unique a1 b1 fun n => by rw [a2, b2, h]
  exact Prod.ext e1 e2
theorem shr_idem {f t : List α} (ht : 0 < t.length) : shr (shr f t).1 (shr f t).2 = shr f t := by
  obtain ⟨a1, a2, _⟩ := shr_is (f := f) ht
  exact shr_eq a1.pos ht a2
/-! ### made longer -/
omit [DecidableEq α] in
theorem sq_twice {f t : List α} (ht : 0 < t.length) (n : Nat) : sq f (rep 2 t) n = sq f t n := by
  have l : (rep 2 t).length = 2 * t.length := rep_len 2 t
  by_cases h : n < f.length
  · rw [sq_lo h, sq_lo h]
  · rw [sq_hi (by omega), sq_hi (by omega), l, rep_get (Nat.mod_lt _ (by omega)), Nat.mod_mod_of_dvd _ (Nat.dvd_mul_left _ _)]
omit [DecidableEq α] in
theorem sq_lap {f t : List α} {x : α} (h0 : t[0]? = some x) (n : Nat) : sq (f ++ [x]) (t.drop 1 ++ t.take 1) n = sq f t n := by
  have ht : 0 < t.length := (List.getElem?_eq_some_iff.mp h0).1
  have e : t.drop 1 ++ t.take 1 = rot t 1 := rfl
  have l : (f ++ [x]).length = f.length + 1 := by rw [List.length_append]; rfl
  rw [e]
  by_cases h : n < f.length
  · rw [sq_lo (by omega), sq_lo h, List.getElem?_append_left h]
  · by_cases h2 : n = f.length
    · rw [sq_lo (by omega), sq_hi (by omega), h2, List.getElem?_append_right (by omega), Nat.sub_self, Nat.zero_mod, h0]
      rfl
    · rw [sq_hi (by omega), sq_hi (by omega), l, rot_cyc (by omega) ht]
      congr 1
      congr 1
      omega
/-! ### what the law asks of tidy rows -/
/-- no turn that is a shorter one done again -/
theorem tidy_turn {f t : List α} (T : TidyR f t) {M : Nat} (h1 : 0 < M) (h2 : M < t.length) : ¬ rep (t.length / M) (t.take M) = t := by
  intro e
  have tl : (t.take M).length = M := by rw [List.length_take]; omega
  have l := congrArg List.length e
  rw [rep_len, tl] at l
  have d : M ∣ t.length := ⟨t.length / M, by rw [Nat.mul_comm]; exact l.symm⟩
  exact T.prim M h1 h2 d ((rep_iff h1 d).mp e.symm)
end Tidy

/-! rules of my own: list(d.values()), t * 1 -/
namespace Bc
open PySem PySem.Spec PyProof.Rows L2
section
variable {X : Cx} {e : Expr} {te : TE} {p apos cpos pos : Pos}
def tListVals (te : TE) : TE := fun σ H Q => te σ H fun x H1 => ∃ (d : Addr) (kvs : List (Key × V)), x = .ref d ∧ H1 d = some (.dK kvs) ∧ ∀ l, H1 l = none → Q (.ref l) (upd H1 l (.lst (kvs.map fun kv => kv.2)))
theorem kv_vals {kvs : List (Key × V)} {vs : List (Key × Value)} (h : KV kvs vs) : Vals (kvs.map fun kv => kv.2) (vs.map fun q => q.2) := by
  induction h with
  | nil => exact .nil
  | cons r _ ih => exact .cons r.2 ih
theorem pe_listVals (hc : X.calm = true) (he : PE X e te) (hg : Gl X "list") (hm : X.mg "list" = none) (hv : bootBuiltins "list" = some (.type "list")) (hbase : attributeBase e "values" X.env (eval e X.env) = eval e X.env := by rfl) (hline : (apos.endLine == cpos.line) = true := by rfl)
    (hs : starEach [.Call (.Attribute e "values" apos) [] [] cpos] X.env = (false, eval (.Call (.Attribute e "values" apos) [] [] cpos) X.env) :: starEach [] X.env := by rfl) :
    PE X (.Call (.Name "list" p) [.Call (.Attribute e "values" apos) [] [] cpos] [] pos) (tListVals te) := by
  refine ⟨fun pins s σ H Q I hq => ?_⟩
  refine wpAny_Call_Name_kw (ld_blt I hg hm hv ?_)
  refine PyProof.Rows.callWith_type1 ?_ hs rfl
  rw [hs]
  show wpAny _ _ (spliced ((false, eval (.Call (.Attribute e "values" apos) [] [] cpos) X.env) :: backTo pos (starEach [] X.env))) _ _ s
  refine Calls.spliced_cons ?_
  refine wpAny_Call_method (T := "dict") (id := "dict.values") hbase rfl hline F.plainAttrs_dict F.slot_dict_values F.type_dict_values (thn (he.run pins s σ H _ I hq) fun u s1 ⟨x, H1, I1, rx, d, kvs, ex, hd, q⟩ => ?_)
  subst ex
  obtain rfl : u = Value.ref d := rx
  obtain ⟨hz, hs0, vs, kv, hdo⟩ := I1.hok d _ hd
  obtain ⟨ep, hat⟩ := hdo.dictAt
  have lk : kvs.length = vs.length := Paired.length kv
  have I2 : Inv X pins σ H1 { s1 with heap := s1.heap.push { cls := .type "dict_values", data := .fields #[.ref d] } } := I1.kept (t' := s1.toks) fun b ob q => Heap.get?_push_of_some _ q
  refine ⟨hdo.typeIs, hdo.mapOf.noDict, ?_⟩
  show wpAny _ _ (callWith cpos (.builtin "dict.values") [.ref d] [] []) _ X.xe s1
  refine method_meetsIn F.slot_dict_values F.entry_dict_values rfl (PySem.evalArgs_none ⟨rfl, hdo.typeIs, F.args_dict_values_1 _, _, meets_dict_values (mixKind X.prog X.w) d hs0, ⟨vs, hdo⟩, ?_⟩)
  refine Calls.spliced_nil ?_
  refine PySem.W.kdl_call (PySem.W.kdl_values (knd := mixKind X.prog X.w) (r := s1.heap.objs.size) (d := d) (kvs := vs) (ep := ep)) (I1.ok.hd hc) ⟨⟨_, Heap.get?_push_size _ rfl, rfl, rfl⟩, hat.push _⟩ (by omega) fun h' tk acc c hk hS hacc => ?_
  have ev : acc.toList = vs.map fun q => q.2 := PySem.W.kdl_vals_eq acc.toList (by rw [Array.length_toList]; exact hacc.1) fun j v hj => hacc.2 j v (by rw [← Array.getElem?_toList]; exact hj)
  have hv := kv_vals kv
  rw [← ev] at hv
  have J := I2.laid (t' := tk) hk (Nat.le_refl _) (show ObjOk X.prog X.w _ h' _ (.lst (kvs.map fun kv => kv.2)) from ⟨by rw [List.length_map]; omega, acc.toList, c, hv, by rw [Array.toArray_toList]; exact hS⟩)
  exact ⟨.ref _, _, J, rfl, q _ (I2.hok.fresh (Nat.le_refl _))⟩
end
end Bc

/-! t * k, also once -/
namespace Bc
open PySem PySem.Spec PyProof.Rows L2
theorem tuple_mul1 (l : Addr) (items : Array Value) (n : Nat) (dd : Option Addr) (sl : Array (Option Value)) (u : Tok) :
    Meets (Builtin.«tuple.__mul__» ⟨[.ref l, .int 1 u], []⟩) (fun _ R s => s.heap.get? l = some { cls := .type "tuple", dict := dd, data := .seq items n, slots := sl } ∧ R (.ok (.ret (Value.ref l))) s) :=
  .of_wp fun prog w A R s h => by
    obtain ⟨hp, g, d, tk, os⟩ := s
    obtain ⟨hl, h⟩ := h
    have f1 := AutoSeq1.idx_int
    have c0 : (decide ((1 : Int) < -(2 ^ 63)) || decide ((1 : Int) ≥ 2 ^ 63)) = false := by decide
    have c1 : (items.isEmpty || (1 : Int) == 1) = true := by simp
    wp_walk using wpAny_loadPart' hl
    repeat (first
      | (refine wpAny_ite_false (decide_eq_false (by rw [c0]; exact Bool.false_ne_true)) ?_; wp_walk using wpAny_loadPart' hl)
      | (refine wpAny_ite_true (decide_eq_true (by rw [c1])) ?_; wp_walk using wpAny_loadPart' hl))
    exact ⟨_, rfl, h⟩
def rRepT1 (K : PySem.W.Frag) : R2 := fun x y H Q => rRepT K x y H Q ∨ ∃ l xs, x = .ref l ∧ y = .int 1 ∧ SqT K H l xs ∧ Q (.ref l) H
section
variable {X : Cx}
theorem op_repT1 : OpR X (binaryOp .Mult) (rRepT1 X.K) := by
  intro pins s σ H x y v u Q I rx ry h
  rcases h with h | ⟨l, xs, rfl, rfl, hT, q⟩
  · exact op_repT pins s σ H x y v u Q I rx ry h
  · cases rx
    obtain ⟨t, rfl⟩ := ry
    obtain ⟨its, r, ⟨⟨cls, dd, data, sl⟩, ho, hc, n, hd⟩, hs⟩ := I.tuple hT
    simp only at hc hd
    subst hc hd
    exact wpAny_binaryOp_repeat_ref (T := "tuple") (U := "int") (by decide) ⟨_, ho, rfl⟩ (fun s' => typeIs_int s' 1 t) noFill_tuple_mul F.fills_int_mul F.slot_int_rmul repeat_tuple F.slot_int_index.lookup
      (call_meets F.slot_int_rmul (typeIs_int s 1 t) F.entry_int_rmul (F.args_int_rmul_2 _ _) (int_rmul_tuple 1 t l its.toArray n dd sl)
        ⟨ho, rfl, ⟨_, ho, rfl⟩, call_meets F.slot_tuple_mul ⟨_, ho, rfl⟩ F.entry_tuple_mul (F.args_tuple_mul_2 _ _) (tuple_mul1 l its.toArray n dd sl t) ⟨ho, ⟨.ref l, H, I, rfl, q⟩⟩⟩)
end
end Bc

namespace Bc
open PySem L2 PyProof.Rows StX
section
variable {K : PySem.W.Frag} {σ : L2.St} {H : Hp} {ta tb te tk : TE} {D : Ends} {u : TS}
theorem ev_eqDD {d e : PyData} (ha : EvD ta σ H d) (hb : ∀ H', Same H H' → EvD tb σ H' e) (s1 : SeqAt.shaped d = true) (s2 : SeqAt.shaped e = true) : Ev (tOp (rEqD K) ta tb) σ H (.bl (PyData.eqv d e)) := fun Q q =>
  ha _ fun x H1 e1 hx => hb H1 e1 _ fun y H2 e2 hy => ⟨d, e, Dt.dp _ _ (hx.go e2), Dt.dp _ _ hy, s1, s2, q H2 (e1.trans e2)⟩
theorem dts_rep {H : Hp} {xs : List V} {ds : List PyData} (h : Dts H xs ds) : ∀ n, Dts H (List.replicate n xs).flatten (List.replicate n ds).flatten
  | 0 => .nil
  | n + 1 => h.append (dts_rep h n)
theorem evd_rep {ds : List PyData} {k : Nat} (h : EvD te σ H (.tuple ds)) (hk : ∀ H', Same H H' → Ev tk σ H' (.int (k : Nat))) (h1 : 1 ≤ k) (h2 : k ≤ 1000) (h3 : 1 ≤ ds.length) (h4 : ds.length ≤ 1000) : EvD (tOp (rRepT1 K) te tk) σ H (.tuple (List.replicate k ds).flatten) := fun Q q =>
  h _ fun v H1 e1 hd => hk H1 e1 _ fun H2 e2 => by
    cases hd with
    | @tup a xs _ ha hx =>
      have hl := hx.length
      have hx2 := hx.go e2
      by_cases k1 : k = 1
      · subst k1
        refine .inr ⟨a, xs, rfl, rfl, SqT.of (e2 _ _ ha), ?_⟩
        have e : (List.replicate 1 ds).flatten = ds := by simp
        rw [e] at q
        exact q _ _ (e1.trans e2) (.tup (e2 _ _ ha) hx2)
      · refine .inl ⟨a, (k : Nat), xs, rfl, rfl, SqT.of (e2 _ _ ha), fun e => by rw [e] at hl; have : (0 : Nat) = ds.length := hl; omega, by omega, by omega, by omega, fun p hp => ?_⟩
        have e : ((k : Nat) : Int).toNat = k := Int.toNat_natCast k
        rw [e]
        exact q _ _ (e1.trans (e2.trans (same_upd hp))) (.tup upd_same ((dts_rep hx2 k).go (same_upd hp)))
theorem evd_ixT {ds : List PyData} {i : Nat} {d : PyData} (h : EvD te σ H (.tuple ds)) (hk : ∀ H', Same H H' → Ev tk σ H' (.int (i : Nat))) (hi : ds[i]? = some d) : EvD (tOp (rIxT K) te tk) σ H d := fun Q q =>
  h _ fun v H1 e1 hd => hk H1 e1 _ fun H2 e2 => by
    cases hd with
    | @tup a xs _ ha hx =>
      obtain ⟨y, hy, hyd⟩ := (hx.go e2).get hi
      exact ⟨a, xs, (i : Nat), y, rfl, rfl, SqT.of (e2 _ _ ha), atI_nat hy, q y H2 (e1.trans e2) hyd⟩
theorem evd_ixL {ds : List PyData} {i : Nat} {d : PyData} (h : EvD te σ H (.list ds)) (hk : ∀ H', Same H H' → Ev tk σ H' (.int (i : Nat))) (hi : ds[i]? = some d) : EvD (tOp (rIxL K) te tk) σ H d := fun Q q =>
  h _ fun v H1 e1 hd => hk H1 e1 _ fun H2 e2 => by
    cases hd with
    | @lst a xs _ ha hx =>
      obtain ⟨y, hy, hyd⟩ := (hx.go e2).get hi
      exact ⟨a, xs, (i : Nat), y, rfl, rfl, SqL.of (e2 _ _ ha), atI_nat hy, q y H2 (e1.trans e2) hyd⟩
theorem ev_lenTD {ds : List PyData} (h : EvD te σ H (.tuple ds)) : Ev (tCB (rLen K) (tCons te tNil)) σ H (.int (ds.length : Nat)) := fun Q q =>
  h _ fun v H1 e1 hd => by
    cases hd with
    | @tup a xs _ ha hx => exact ⟨a, xs, rfl, .inr (SqT.of ha), by rw [hx.length]; exact q H1 e1⟩
theorem ev_lenDl {ds : List PyData} (h : EvD te σ H (.list ds)) : Ev (tCB (rLen K) (tCons te tNil)) σ H (.int (ds.length : Nat)) := fun Q q =>
  h _ fun v H1 e1 hd => by
    cases hd with
    | @lst a xs _ ha hx => exact ⟨a, xs, rfl, .inl (SqL.of ha), by rw [hx.length]; exact q H1 e1⟩
theorem s_retD {d : PyData} (h : EvD te σ H d) (k : ∀ v H', Same H H' → Dt H' v d → D.rt v H') : tRet te D σ H := h _ fun v H' e hd => k v H' e hd
/-- for x in range(lo, lo + n) -/
theorem q_forR2 {j lo n hi : Nat} {tu : TS} (ha : Ev ta σ H (.int (lo : Nat))) (hb : ∀ H', Same H H' → Ev tb σ H' (.int (hi : Nat))) (hn : lo + n = hi) (hl : hi ≤ 100000) (Pv : Nat → L2.St → Hp → Prop) (h0 : ∀ H', Same H H' → Pv 0 σ H')
    (hs : ∀ i σ' H', i < n → Pv i σ' H' → tu { D with nx := Pv (i + 1), ct := Pv (i + 1), bk := u D } (σ'.set j (some (.int ((lo + i : Nat) : Int)))) H') (hd : ∀ σ' H', Pv n σ' H' → u D σ' H') : tSeq (tFor (iRng2 (tCons ta (tCons tb tNil))) (gName j) tu) u D σ H :=
  ha _ fun H1 e1 => hb H1 e1 _ fun H2 e2 => ⟨(lo : Nat), (hi : Nat), rfl, by omega, by
    have e : (((hi : Nat) : Int) - ((lo : Nat) : Int)).toNat = n := by omega
    rw [e]
    exact for_it (walk_range (lo := ((lo : Nat) : Int)) (n := n)) Pv (h0 H2 (e1.trans e2)) (fun _ _ _ _ _ => True.intro) (fun i x σ' H3 H4 hi p y => by
      obtain ⟨rfl, rfl⟩ := y
      have z := hs i σ' _ hi p
      have e2 : ((lo + i : Nat) : Int) = ((lo : Nat) : Int) + ((i : Nat) : Int) := by omega
      rw [e2] at z
      exact z) hd⟩
theorem ev_mod {a b : Nat} (ha : Ev ta σ H (.int (a : Nat))) (hb : ∀ H', Same H H' → Ev tb σ H' (.int (b : Nat))) (h : 0 < b) : Ev (tOp (rI (fun _ j => 0 < j) fun i j => .int (i % j)) ta tb) σ H (.int ((a % b : Nat) : Int)) := by
  have e : ((a % b : Nat) : Int) = ((a : Nat) : Int) % ((b : Nat) : Int) := rfl
  rw [e]
  exact ev_I ha hb (by omega)
theorem ev_fdiv {a b : Nat} (ha : Ev ta σ H (.int (a : Nat))) (hb : ∀ H', Same H H' → Ev tb σ H' (.int (b : Nat))) (h : 0 < b) (h2 : b < 1000) : Ev (tOp (rI CDiv fun i j => .int (i / j)) ta tb) σ H (.int ((a / b : Nat) : Int)) := by
  have e : ((a / b : Nat) : Int) = ((a : Nat) : Int) / ((b : Nat) : Int) := rfl
  rw [e]
  exact ev_I ha hb ⟨by omega, by omega⟩
end
def RowOk (t : Row) : Prop := ∀ d ∈ t, ∀ x ∈ d, PyData.strOk x = true
theorem row_shaped {t : Row} (h : RowOk t) : SeqAt.shaped (dRow t) = true := shaped_of (n := 2) (lay_row h) (depth_row t)
theorem drow_rep (k : Nat) (t : Row) : PyData.tuple (List.replicate k (t.map dDrop)).flatten = dRow (Tidy.rep k t) := by
  unfold dRow Tidy.rep
  congr 1
  induction k with
  | zero => rfl
  | succ k ih =>
    rw [List.replicate_succ, List.replicate_succ, List.flatten_cons, List.flatten_cons, List.map_append, ih]
theorem drow_take (k : Nat) (t : Row) : PyData.tuple ((t.map dDrop).take k) = dRow (t.take k) := by
  unfold dRow
  rw [List.map_take]
theorem drow_drop (k : Nat) (t : Row) : PyData.tuple ((t.map dDrop).drop k) = dRow (t.drop k) := by
  unfold dRow
  rw [List.map_drop]
theorem drow_cat (a b : Row) : PyData.tuple (a.map dDrop ++ b.map dDrop) = dRow (a ++ b) := by
  unfold dRow
  rw [List.map_append]
theorem rowOk_sub {t t' : Row} (h : RowOk t) (k : ∀ d ∈ t', d ∈ t) : RowOk t' := fun d hd x hx => h d (k d hd) x hx
theorem rep_mem {α : Type} {l : List α} {k : Nat} {x : α} (h : x ∈ Tidy.rep k l) : x ∈ l := by
  obtain ⟨m, h1, h2⟩ := List.mem_flatten.mp h
  rw [(List.mem_replicate.mp h1).2] at h2
  exact h2
section
variable {P : Program} {w : World} {K : PySem.W.Frag} {mg : Str → Option Value} {base : Heap} {ad : Ad}
/-! ### least_period -/
def spLeast : Sp := fun vs H Q _ => ∃ (v : V) (t : Row), vs = [v] ∧ Dt H v (dRow t) ∧ RowOk t ∧ 1 ≤ t.length ∧ t.length ≤ 60 ∧ ∀ H', Same H H' → Q (.int (Tidy.lp t : Nat)) H'
theorem scLeast : FnScope ["rows", "length"] ["rows"] (defScope sLeast) := ⟨rfl, rfl, rfl, by decide +kernel, rfl, by decide +kernel, by decide +kernel⟩
theorem ok_least (T : Tx K mg ad) : FnOk P w K mg base CX0 2 ad.least ad.dLeast ["rows"] spLeast := by
  refine T.fLeast.ok scLeast (fun vs H Q E h => ?_) (fun cdv A outer s H vs Q E hr h => ?_)
  · obtain ⟨v, t, rfl, _⟩ := h
    rfl
  · obtain ⟨v, t, rfl, hv, ok, l1, l60, k⟩ := h
    refine ⟨_, pss_cons (ps_for PassesOwn.never rfl (pi_range2 (by rfl) T.range (pa_cons pe_int (pa_cons (pe_callB (call_lenK (K := K) rfl) (by rfl) T.len PySem.boot_len (pa_cons (pv 0) pa_nil)) pa_nil))) (pg_name (i := 1) scLeast.nd rfl (.inl rfl))
        (pss_one (ps_if (PW.pt (pw_and (pt_cmpR op_eq (pe_op op_mod (pe_callB (call_lenK (K := K) rfl) (by rfl) T.len PySem.boot_len (pa_cons (pv 0) pa_nil)) (pv 1)) pe_int (nomark _)) (pw_and1 (pt_cmpR (op_eqD hr.units) (pv 0) (pe_op op_repT1 (pe_slice sl_tupA (pv 0) po_none (po_some (pv 1))) (pe_op op_fdiv (pe_callB (call_lenK (K := K) rfl) (by rfl) T.len PySem.boot_len (pa_cons (pv 0) pa_nil)) (pv 1))) (nomark _)))))
          (pss_one (ps_ret (pv 1))) pss_nil)))
      (pss_one (ps_ret (pe_callB (call_lenK (K := K) rfl) (by rfl) T.len PySem.boot_len (pa_cons (pv 0) pa_nil)))), ?_⟩
    have m : (t.map dDrop).length = t.length := List.length_map _
    have len : ∀ {σ : L2.St} {H' : Hp}, σ[0]? = some (some v) → Dt H' v (dRow t) → Ev (tCB (rLen K) (tCons (tVar 0) tNil)) σ H' (.int (t.length : Nat)) := fun h0 hd => by
      have z := ev_lenTD (K := K) (te := tVar 0) (evd_of (ev_tv h0) hd)
      rw [m] at z
      exact z
    refine q_forR2 (lo := 1) (n := t.length - 1) (hi := t.length) ev_tc (fun H1 e1 => len rfl (hv.go e1)) (by omega) (by omega) (fun i σ H' => (∃ x, σ = [some v, x] ∧ Same H H') ∧ Tidy.lpf t (1 + i) (t.length - 1 - i) = Tidy.lp t) (fun H1 e1 => ⟨⟨_, rfl, e1⟩, rfl⟩)
      (fun i σ H1 hi p => ?_) fun σ H1 p => ?_
    · obtain ⟨⟨x, rfl, e1⟩, hp⟩ := p
      have e0 : t.length - 1 - i = (t.length - 1 - (i + 1)) + 1 := by omega
      rw [e0] at hp
      have hp : (if Tidy.good t (1 + i) then 1 + i else Tidy.lpf t (1 + i + 1) (t.length - 1 - (i + 1))) = Tidy.lp t := hp
      have hlt : 1 + i < t.length := by omega
      have v1 := hv.go e1
      have tst : EvB (tAnd (tB (tOp rEq (tOp (rI (fun _ j => 0 < j) fun i j => .int (i % j)) (tCB (rLen K) (tCons (tVar 0) tNil)) (tVar 1)) (tC (.int 0)))) (tB (tOp (rEqD K) (tVar 0) (tOp (rRepT1 K) (tSl (rSlA K) (tVar 0) tNoPart (tPart (tVar 1))) (tOp (rI CDiv fun i j => .int (i / j)) (tCB (rLen K) (tCons (tVar 0) tNil)) (tVar 1)))))) [some v, some (.int ((1 + i : Nat) : Int))] H1 (Tidy.good t (1 + i)) := by
        unfold Tidy.good
        refine EvB.and (evb_is (EvB.of (ev_eq (x := .int ((t.length % (1 + i) : Nat) : Int)) (y := .int 0) (ev_mod (len rfl v1) (fun H2 e2 => ev_tv rfl) (by omega)) (fun _ _ => ev_tc) rfl)) ?_) fun hb H2 e2 => ?_
        · by_cases q : t.length % (1 + i) = 0
          · rw [q]
            rfl
          · rw [decide_eq_false q]
            exact decide_eq_false fun z => q (by injection z with z; omega)
        · have hb := of_decide_eq_true hb
          have tl : ((t.map dDrop).take (1 + i)).length = 1 + i := by rw [List.length_take, m]; omega
          have z := ev_eqDD (K := K) (σ := [some v, some (.int ((1 + i : Nat) : Int))]) (H := H2) (ta := tVar 0) (tb := tOp (rRepT1 K) (tSl (rSlA K) (tVar 0) tNoPart (tPart (tVar 1))) (tOp (rI CDiv fun i j => .int (i / j)) (tCB (rLen K) (tCons (tVar 0) tNil)) (tVar 1)))
            (evd_of (ev_tv rfl) (v1.go e2)) (fun H3 e3 => evd_rep (K := K) (k := t.length / (1 + i)) (evd_upto (K := K) (c := 1 + i) (evd_of (ev_tv rfl) (v1.go (e2.trans e3))) fun _ _ => ev_tv rfl) (fun H4 e4 => ev_fdiv (len rfl (v1.go (e2.trans (e3.trans e4)))) (fun _ _ => ev_tv rfl) (by omega) (by omega))
              (Nat.div_pos (by omega) (by omega)) (Nat.le_trans (Nat.div_le_self _ _) (by omega)) (by rw [tl]; omega) (by rw [tl]; omega)) (row_shaped ok) (by
              rw [← List.map_take, drow_rep]
              exact row_shaped (rowOk_sub ok fun d hd => List.mem_of_mem_take (rep_mem hd)))
          rw [← List.map_take, drow_rep, eqv_row] at z
          exact EvB.of z
      by_cases g : Tidy.good t (1 + i) = true
      · rw [if_pos g] at hp
        exact if_yes (evb_is tst g) fun H2 e2 => s_ret (ev_tv rfl) fun H3 e3 => by
          have z := k H3 (e1.trans (e2.trans e3))
          rw [← hp] at z
          exact z
      · rw [if_neg g] at hp
        refine s_no (evb_is tst (Bool.eq_false_iff.mpr g)) fun H2 e2 => ⟨⟨_, rfl, e1.trans e2⟩, ?_⟩
        rw [← hp]
        congr 1
    · obtain ⟨⟨x, rfl, e1⟩, hp⟩ := p
      have e0 : t.length - 1 - (t.length - 1) = 0 := by omega
      rw [e0] at hp
      have hp : t.length = Tidy.lp t := hp
      exact s_ret (len rfl (hv.go e1)) fun H2 e2 => by
        have z := k H2 (e1.trans e2)
        rw [← hp] at z
        exact z
end
end Bc

namespace Bc
open PySem L2 PyProof.Rows StX
theorem ix_un {b F L : Nat} (hb : b ≤ F) (hL : 0 < L) : (((b : Nat) : Int) - ((F : Nat) : Int)) % ((L : Nat) : Int) = (((b + F * L - F) % L : Nat) : Int) := by
  have h : F ≤ F * L := Nat.le_mul_of_pos_right _ hL
  have e : (((b + F * L - F : Nat)) : Int) = (((b : Nat) : Int) - ((F : Nat) : Int)) + ((F : Nat) : Int) * ((L : Nat) : Int) := by
    have : ((F * L : Nat) : Int) = ((F : Nat) : Int) * ((L : Nat) : Int) := Int.natCast_mul _ _
    omega
  have e2 : (((b + F * L - F) % L : Nat) : Int) = ((b + F * L - F : Nat) : Int) % ((L : Nat) : Int) := rfl
  rw [e2, e, Int.add_mul_emod_self_right]
theorem drow_get {t : Row} {i : Nat} {d : Drop} (h : t[i]? = some d) : (t.map dDrop)[i]? = some (dDrop d) := by
  rw [List.getElem?_map, h]
  rfl
theorem q_whileB {c : TT} {tb u : TS} {D : Ends} {σ : L2.St} {H : Hp} (W : Nat → L2.St → Hp → Prop) (m0 : Nat) (h0 : W m0 σ H)
    (hs : ∀ m σ' H', W m σ' H' → ∃ b, EvB c σ' H' b ∧ (b = true → ∀ H1, Same H' H1 → tb { D with nx := fun σ2 H2 => ∃ m', m' < m ∧ W m' σ2 H2, ct := fun σ2 H2 => ∃ m', m' < m ∧ W m' σ2 H2, bk := u D } σ' H1) ∧ (b = false → ∀ H1, Same H' H1 → u D σ' H1)) :
    tSeq (tWhile c tb) u D σ H := by
  refine ⟨W, ⟨m0, h0⟩, fun m σ' H' hw => ?_⟩
  obtain ⟨b, h1, h2, h3⟩ := hs m σ' H' hw
  refine h1 _ fun H1 e1 => ?_
  cases b with
  | true => exact iteT ⟨fun σ2 H2 => ∃ m', m' < m ∧ W m' σ2 H2, fun _ _ z => z, h2 rfl H1 e1⟩
  | false => exact iteF (h3 rfl H1 e1)
def condB (f p : Row) : Nat → Bool
  | 0 => false
  | b + 1 => decide (f[b]? = Tidy.un p f.length b)
def dropOk (d : Drop) : Prop := ∀ x ∈ d, PyData.strOk x = true
theorem drop_shaped {d : Drop} (h : dropOk d) : SeqAt.shaped (dDrop d) = true := shaped_of (n := 1) (lay_drop h) (depth_drop d)
section
variable {P : Program} {w : World} {K : PySem.W.Frag} {mg : Str → Option Value} {base : Heap} {ad : Ad}
/-! ### shortest_rows -/
def spShort : Sp := fun vs H Q _ => ∃ (v1 v2 : V) (f t : Row), vs = [v1, v2] ∧ Dt H v1 (dRow f) ∧ Dt H v2 (dRow t) ∧ RowOk f ∧ RowOk t ∧ 1 ≤ t.length ∧ t.length ≤ 60 ∧ f.length ≤ 60 ∧ ∀ v H', Same H H' → Dt H' v (dRows (Tidy.shr f t)) → Q v H'
theorem scShort : FnScope ["front", "period", "behind", "turned"] ["front", "period"] (defScope sShort) := ⟨rfl, rfl, rfl, by decide +kernel, rfl, by decide +kernel, by decide +kernel⟩
theorem ok_short (T : Tx K mg ad) : FnOk P w K mg base CX0 3 ad.short ad.dShort ["front", "period"] spShort := by
  have G : FnOk P w K mg base CX0 2 ad.least ad.dLeast ["rows"] spLeast := ok_least T
  have b := T.fLeast.binds (ps := ["rows"]) fun _ _ _ _ _ _ us hl => match us, hl with | [_], _ => rfl
  refine T.fShort.ok scShort (fun vs H Q E h => ?_) (fun cdv A outer s H vs Q E hr h => ?_)
  · obtain ⟨v1, v2, f, t, rfl, _⟩ := h
    rfl
  · obtain ⟨v1, v2, f, t, rfl, hf, ht, okf, okt, t1, t60, f60, k⟩ := h
    refine ⟨_, pss_cons (ps_set (i := 1) scShort.nd rfl (.inl rfl) (pe_slice sl_tupA (pv 1) po_none (po_some (pe_call G hr (by rfl) T.gLeast T.fLeast.kp b .nil pass0 (pa_cons (pv 1) pa_nil)))))
      (pss_cons (ps_set (i := 2) scShort.nd rfl (.inl rfl) (pe_callB (call_lenK (K := K) rfl) (by rfl) T.len PySem.boot_len (pa_cons (pv 0) pa_nil)))
      (pss_cons (ps_while PassesOwn.never (PW.pt (pw_and (pt_cmpR op_gt (pv 2) pe_int (nomark _)) (pw_and1 (pt_cmpR (op_eqD hr.units) (pe_ix ix_tup (pv 0) (pe_op op_sub (pv 2) pe_int) (fun _ _ => rfl))
          (pe_ix ix_tup (pv 1) (pe_op op_mod (pe_op op_sub (pe_op op_sub (pv 2) pe_int) (pe_callB (call_lenK (K := K) rfl) (by rfl) T.len PySem.boot_len (pa_cons (pv 0) pa_nil))) (pe_callB (call_lenK (K := K) rfl) (by rfl) T.len PySem.boot_len (pa_cons (pv 1) pa_nil))) (fun _ _ => rfl)) (nomark _)))))
        (pss_one (ps_aug (i := 2) scShort.nd rfl (.inl rfl) pe_int ip_sub)))
      (pss_cons (ps_set (i := 3) scShort.nd rfl (.inl rfl) (pe_op op_mod (pe_op op_sub (pv 2) (pe_callB (call_lenK (K := K) rfl) (by rfl) T.len PySem.boot_len (pa_cons (pv 0) pa_nil))) (pe_callB (call_lenK (K := K) rfl) (by rfl) T.len PySem.boot_len (pa_cons (pv 1) pa_nil))))
      (pss_one (ps_ret (pe_tup (pa_cons (pe_slice sl_tupA (pv 0) po_none (po_some (pv 2))) (pa_cons (pe_op op_catA (pe_slice sl_tupA (pv 1) (po_some (pv 3)) po_none) (pe_slice sl_tupA (pv 1) po_none (po_some (pv 3)))) pa_nil)))))))), ?_⟩
    have tp : 0 < t.length := t1
    obtain ⟨lp1, lp2, _⟩ := Tidy.lp_is tp
    have pl : (Tidy.per t).length = Tidy.lp t := Tidy.per_len tp
    have ple : Tidy.lp t ≤ t.length := Nat.le_of_dvd tp lp2
    have mf : (f.map dDrop).length = f.length := List.length_map _
    have mp : ((Tidy.per t).map dDrop).length = (Tidy.per t).length := List.length_map _
    have okp : RowOk (Tidy.per t) := rowOk_sub okt fun d hd => List.mem_of_mem_take hd
    refine q_asgD (d := dRow (Tidy.per t)) (by
      have z := evd_upto (K := K) (σ := [some v1, some v2, none, none]) (H := H) (te := tVar 1) (tl := tCall spLeast [] E0 (tCons (tVar 1) tNil)) (ds := t.map dDrop) (c := Tidy.lp t) (evd_of (ev_tv rfl) ht) fun H1 e1 => ev_call (ea_cons (ev_tv rfl) fun _ _ => ea_nil) fun H2 e2 Q2 q2 => ⟨v2, t, rfl, ht.go (e1.trans e2), okt, t1, t60, fun H3 e3 => q2 H3 e3⟩
      rw [drow_take] at z
      exact z) fun vp H1 e1 hp => ?_
    have lenF : ∀ {σ : L2.St} {H' : Hp}, σ[0]? = some (some v1) → Dt H' v1 (dRow f) → Ev (tCB (rLen K) (tCons (tVar 0) tNil)) σ H' (.int (f.length : Nat)) := fun h0 hd => by
      have z := ev_lenTD (K := K) (te := tVar 0) (evd_of (ev_tv h0) hd)
      rw [mf] at z
      exact z
    have lenP : ∀ {σ : L2.St} {H' : Hp}, σ[1]? = some (some vp) → Dt H' vp (dRow (Tidy.per t)) → Ev (tCB (rLen K) (tCons (tVar 1) tNil)) σ H' (.int ((Tidy.per t).length : Nat)) := fun h0 hd => by
      have z := ev_lenTD (K := K) (te := tVar 1) (evd_of (ev_tv h0) hd)
      rw [mp] at z
      exact z
    refine q_asg (lenF rfl (hf.go e1)) fun H2 e2 => ?_
    have hp2 := hp.go e2
    have hf2 := hf.go (e1.trans e2)
    have Lp : 0 < (Tidy.per t).length := by omega
    refine q_whileB (fun m σ H' => σ = [some v1, some vp, some (.int (m : Nat)), none] ∧ Same H2 H' ∧ m ≤ f.length ∧ Tidy.bh f (Tidy.per t) m = Tidy.shb f t) f.length ⟨rfl, Same.refl _, Nat.le_refl _, rfl⟩ fun m σ H3 p => ?_
    obtain ⟨rfl, e3, hm, hbh⟩ := p
    have idx : ∀ {σ : L2.St} {H' : Hp} {tx : TE} {b : Nat}, b ≤ f.length → σ[0]? = some (some v1) → σ[1]? = some (some vp) → Same H2 H' → Ev tx σ H' (.int (b : Nat)) → Ev (tOp (rI (fun _ j => 0 < j) fun i j => .int (i % j)) (tOp (rI0 fun i j => .int (i - j)) tx (tCB (rLen K) (tCons (tVar 0) tNil))) (tCB (rLen K) (tCons (tVar 1) tNil))) σ H' (.int (((b + f.length * (Tidy.per t).length - f.length) % (Tidy.per t).length : Nat) : Int)) := fun hb h0 h1 e hx => by
      have z := ev_I (C := fun _ j => 0 < j) (g := fun i j => .int (i % j)) (ev_I0 (g := fun i j => .int (i - j)) hx fun H4 e4 => lenF h0 (hf2.go (e.trans e4))) (fun H4 e4 => lenP h1 (hp2.go (e.trans e4))) (by omega)
      rw [ix_un hb Lp] at z
      exact z
    refine ⟨condB f (Tidy.per t) m, ?_, fun hc H4 e4 => ?_, fun hc H4 e4 => ?_⟩
    · cases m with
      | zero => exact evb_is (EvB.and (b := true) (EvB.of' (ev_I0 (ev_tv rfl) fun _ _ => ev_tc)) fun z => absurd z (by decide)) rfl
      | succ b =>
        have hlt : b < f.length := hm
        have hu : (b + f.length * (Tidy.per t).length - f.length) % (Tidy.per t).length < (Tidy.per t).length := Nat.mod_lt _ Lp
        have g1 : f[b]? = some f[b] := List.getElem?_eq_getElem hlt
        have g2 : (Tidy.per t)[(b + f.length * (Tidy.per t).length - f.length) % (Tidy.per t).length]? = some (Tidy.per t)[(b + f.length * (Tidy.per t).length - f.length) % (Tidy.per t).length] := List.getElem?_eq_getElem hu
        have sb : ∀ {H' : Hp}, Ev (tOp (rI0 fun i j => .int (i - j)) (tVar 2) (tC (.int 1))) [some v1, some vp, some (.int ((b + 1 : Nat) : Int)), none] H' (.int (b : Nat)) := fun {H'} => by
          have z := ev_I0 (σ := [some v1, some vp, some (.int ((b + 1 : Nat) : Int)), none]) (H := H') (g := fun i j => .int (i - j)) (ta := tVar 2) (tb := tC (.int 1)) (ev_tv rfl) fun _ _ => ev_tc
          have e : (((b + 1 : Nat) : Int) - 1) = ((b : Nat) : Int) := by omega
          rw [e] at z
          exact z
        refine evb_is (EvB.and (EvB.of' (ev_I0 (ev_tv rfl) fun _ _ => ev_tc)) fun _ H4 e4 => EvB.of' (ev_eqDD (K := K) (evd_ixT (K := K) (evd_of (ev_tv rfl) (hf2.go (e3.trans e4))) (fun _ _ => sb) (drow_get g1)) (fun H5 e5 => evd_ixT (K := K) (evd_of (ev_tv rfl) (hp2.go (e3.trans (e4.trans e5)))) (fun H6 e6 => idx (Nat.le_of_lt hlt) rfl rfl (e3.trans (e4.trans (e5.trans e6))) sb) (drow_get g2)) (drop_shaped (okf _ (List.getElem_mem hlt))) (drop_shaped (okp _ (List.getElem_mem hu))))) ?_
        rw [eqv_drop]
        have pos : decide ((0 : Int) < ((b + 1 : Nat) : Int)) = true := decide_eq_true (by omega)
        rw [pos, Bool.true_and]
        show _ = decide (f[b]? = Tidy.un (Tidy.per t) f.length b)
        unfold Tidy.un
        rw [g1, g2]
        by_cases q : f[b] = (Tidy.per t)[(b + f.length * (Tidy.per t).length - f.length) % (Tidy.per t).length]
        · rw [decide_eq_true q, decide_eq_true (congrArg some q)]
        · rw [decide_eq_false q, decide_eq_false fun z => q (Option.some.inj z)]
    · cases m with
      | zero => cases hc
      | succ b =>
        have hq := of_decide_eq_true (show decide (f[b]? = Tidy.un (Tidy.per t) f.length b) = true from hc)
        refine ⟨.int ((b + 1 : Nat) : Int), rfl, ((b + 1 : Nat) : Int), 1, rfl, rfl, b, by omega, ?_, e3.trans e4, by omega, ?_⟩
        · have e : (((b + 1 : Nat) : Int) - 1) = ((b : Nat) : Int) := by omega
          show [some v1, some vp, some (V.int (((b + 1 : Nat) : Int) - 1)), none] = _
          rw [e]
        · rw [← hbh]
          unfold Tidy.bh
          rw [if_pos hq]
          cases b <;> rfl
    · have hsm : Tidy.shb f t = m := by
        rw [← hbh]
        cases m with
        | zero => rfl
        | succ b =>
          have hq := of_decide_eq_false (show decide (f[b]? = Tidy.un (Tidy.per t) f.length b) = false from hc)
          show (if f[b]? = Tidy.un (Tidy.per t) f.length b then Tidy.bh f (Tidy.per t) b else b + 1) = b + 1
          rw [if_neg hq]
      refine q_asg (idx hm rfl rfl (e3.trans e4) (ev_tv rfl)) fun H5 e5 => ?_
      have e25 := e3.trans (e4.trans e5)
      have kk : Tidy.sht f t = (m + f.length * (Tidy.per t).length - f.length) % (Tidy.per t).length := by
        unfold Tidy.sht
        rw [hsm]
      rw [← kk]
      refine s_retD (d := dRows (Tidy.shr f t)) ?_ fun v H6 e6 hd => k v H6 (e1.trans (e2.trans (e25.trans e6))) hd
      have r1 : dRow (f.take m) = .tuple ((f.map dDrop).take m) := (drow_take m f).symm
      have r2 : dRow (Tidy.rot (Tidy.per t) (Tidy.sht f t)) = .tuple (((Tidy.per t).map dDrop).drop (Tidy.sht f t) ++ ((Tidy.per t).map dDrop).take (Tidy.sht f t)) := by
        unfold Tidy.rot
        rw [← List.map_drop, ← List.map_take, drow_cat]
      have r3 : Tidy.shr f t = (f.take m, Tidy.rot (Tidy.per t) (Tidy.sht f t)) := by
        unfold Tidy.shr
        rw [hsm]
      rw [r3]
      show EvD _ _ _ (.tuple [dRow (f.take m), dRow (Tidy.rot (Tidy.per t) (Tidy.sht f t))])
      rw [r1, r2]
      refine evd_tup2 (evd_upto (K := K) (c := m) (evd_of (ev_tv rfl) (hf2.go e25)) fun _ _ => ev_tv rfl) fun H6 e6 => evd_cat (K := K) (evd_from (K := K) (c := Tidy.sht f t) (evd_of (ev_tv rfl) (hp2.go (e25.trans e6))) fun _ _ => ev_tv rfl) (fun H7 e7 => evd_upto (K := K) (c := Tidy.sht f t) (evd_of (ev_tv rfl) (hp2.go (e25.trans (e6.trans e7)))) fun _ _ => ev_tv rfl) ?_
      rw [List.length_drop, List.length_take, mp]
      omega
end
end Bc

namespace Bc
open PySem L2 PyProof.Rows StX
theorem dt_rows {H : Hp} {v : V} {r : Rows} (h : Dt H v (dRows r)) : ∃ a vf vt, v = .ref a ∧ H a = some (.tup [vf, vt]) ∧ Dt H vf (dRow r.1) ∧ Dt H vt (dRow r.2) := by
  cases h with
  | @tup a xs _ ha hx =>
    cases hx with
    | cons h k =>
      cases k with
      | cons h2 k =>
        cases k
        exact ⟨a, _, _, rfl, ha, h, h2⟩
theorem dk_at {H : Hp} : ∀ {kv : List (Key × V)} {ks : Knots} {i : Nat} {k : Key} {v : V}, Dk H kv (kd ks) → kv[i]? = some (k, v) → ∃ z r, ks[i]? = some (z, r) ∧ k = .inr z ∧ Dt H v (dRows r)
  | _, [], _, _, _, .nil, e => by simp at e
  | _, (z, r) :: ks, 0, _, _, .cons h _, e => by
    simp at e
    obtain ⟨rfl, rfl⟩ := e
    exact ⟨z, r, rfl, rfl, h⟩
  | _, (z, r) :: ks, i + 1, _, _, .cons _ h, e => by
    obtain ⟨z', r', h1, h2⟩ := dk_at (i := i) h (by simpa using e)
    exact ⟨z', r', by simpa using h1, h2⟩
theorem lock_ts {H : Hp} {a : Addr} {kv : List (Key × V)} {o : HO} (h : H a = some (.dK kv)) : Tsm H (upd H a o) := Tsm.upd fun xs z => by rw [h] at z; cases z
section
variable {K : PySem.W.Frag} {σ : L2.St} {H : Hp} {ta tb te tk : TE} {D : Ends} {u : TS}
/-- for z, (f, t) in d.items(), the rows of knots -/
theorem q_items {tb : TS} {ka : Addr} {kv : List (Key × V)} {ks : Knots} {i j l n m : Nat} (hka : H ka = some (.dK kv)) (hk : Dk H kv (kd ks)) (hn : n = 2 := by rfl) (hm : m = 2 := by rfl)
    (k : ∀ od, (∀ H', Same (upd H ka (.frz od (.dK kv))) H' → Ev te σ H' (.ref ka)) ∧ ∃ Pv : Nat → L2.St → Hp → Prop, (∀ H', Same (upd H ka (.frz od (.dK kv))) H' → Pv 0 σ H') ∧ (∀ i σ' H', Pv i σ' H' → Same (upd H ka (.frz od (.dK kv))) H') ∧ (∀ i σ' H' H'', Same H' H'' → Pv i σ' H' → Pv i σ' H'') ∧
      (∀ g z r vf vt σ' H' bk ct, ks[g]? = some (z, r) → Pv g σ' H' → Dt H' vf (dRow r.1) → Dt H' vt (dRow r.2) → tb ⟨Pv (g + 1), fun v H' => H' ka = some (.frz od (.dK kv)) ∧ D.rt v (upd H' ka (.dK kv)), bk, ct⟩ (((σ'.set i (some (.str z))).set j (some vf)).set l (some vt)) H') ∧
      (∀ σ' H', Pv ks.length σ' H' → u D σ' (upd H' ka (.dK kv)))) :
    tSeq (tLock (tFor (iItems te) (gTup K n (gCons (gName i) (gCons (gTup K m (gCons (gName j) (gCons (gName l) gNil))) gNil))) tb)) u D σ H := by
  refine ⟨ka, _, hka, True.intro, fun od => ?_⟩
  obtain ⟨he, Pv, h0, hS, hmo, hs, hd⟩ := k od
  refine he _ (Same.refl _) _ fun H1 e1 => ⟨ka, od, kv, rfl, e1 _ _ upd_same, ?_⟩
  have kl : kv.length = ks.length := by rw [hk.length]; exact List.length_map _
  refine for_it (walk_items (d := ka) (o := od) (kvs := kv)) Pv (h0 H1 e1) (fun i σ' H' _ p => hS i σ' H' p _ _ upd_same) (fun g x σ' H2 H3 hi p y => ?_) (fun σ' H' p => ?_)
  · obtain ⟨t, kx, v, rfl, ht, rfl, hu, hv⟩ := y
    obtain ⟨⟨pk, pval⟩, hp, rfl⟩ := Option.map_eq_some_iff.mp hu
    replace hv : kv[g]?.map Prod.snd = some v := hv
    rw [hp] at hv
    obtain rfl : pval = v := Option.some.inj hv
    obtain ⟨z, r, hg, rfl, hdt⟩ := dk_at hk hp
    have eS := (hS g σ' H2 p).trans (same_upd (o := HO.tup [kV (.inr z), pval]) ht)
    have d2 : Dt (upd H2 t (.tup [kV (.inr z), pval])) pval (dRows r) := hdt.rows_ts ((lock_ts hka).trans (Tsm.same eS))
    obtain ⟨a, vf, vt, rfl, ha, hf, htt⟩ := dt_rows d2
    exact ⟨t, _, rfl, SqT.of upd_same, hn.symm, _, _, rfl, _, _, rfl, a, [vf, vt], rfl, SqT.of ha, hm.symm, _, _, rfl, _, _, rfl, rfl, rfl, hs g z r vf vt σ' _ _ _ hg (hmo g σ' H2 _ (same_upd ht) p) hf htt⟩
  · rw [kl] at p
    exact ⟨hS _ _ _ p _ _ upd_same, hd σ' H' p⟩
end
end Bc

namespace Bc
open PySem L2 PyProof.Rows StX
section
variable {K : PySem.W.Frag} {σ : L2.St} {H : Hp} {ta tb te tk tx tl : TE} {t : TA} {D : Ends} {u : TS}
/-! ### lists of data -/
theorem evd_catL {ds es : List PyData} (h : EvD ta σ H (.list ds)) (k : ∀ H', Same H H' → EvD tb σ H' (.list es)) (hl : ds.length + es.length ≤ 100000) : EvD (tOp rCat ta tb) σ H (.list (ds ++ es)) := fun Q q =>
  h _ fun v H1 e1 hd => k H1 e1 _ fun w H2 e2 he => by
    cases hd with
    | @lst a xs _ ha hx =>
    cases he with
    | @lst b ys _ hb hy =>
    have hx2 := hx.go e2
    exact ⟨a, b, xs, ys, rfl, rfl, e2 _ _ ha, hb, by rw [hx2.length, hy.length]; exact sz hl, fun p hp => q _ _ ((e1.trans e2).trans (same_upd hp)) (.lst upd_same ((hx2.append hy).go (same_upd hp)))⟩
theorem evd_lst1 {d : PyData} (h : EvD te σ H d) : EvD (tLst (tCons te tNil)) σ H (.list [d]) := fun Q q => h _ fun v H1 e1 hd => ⟨by show 1 ≤ sizeLine; decide, fun p hp => q _ _ (e1.trans (same_upd hp)) (.lst upd_same (.cons (hd.go (same_upd hp)) .nil))⟩
theorem evd_lst0 : EvD (tLst tNil) σ H (.list []) := fun Q q => ⟨Nat.zero_le _, fun p hp => q _ _ (same_upd hp) (.lst upd_same .nil)⟩
theorem evd_fromL {ds : List PyData} {c : Nat} (h : EvD te σ H (.list ds)) (hc : ∀ H', Same H H' → Ev tl σ H' (.int (c : Nat))) : EvD (tSl (rSlL K) te (tPart tl) tNoPart) σ H (.list (ds.drop c)) := fun Q q =>
  h _ fun v H1 e1 hd => hc H1 e1 _ fun H2 e2 => ⟨_, rfl, by
    cases hd with
    | @lst a xs _ ha hx =>
    have ha2 := e2 _ _ ha
    have hx2 := hx.go e2
    have e := e1.trans e2
    have key : cutV xs (some (c : Nat)) none = xs.drop c := by
      unfold cutV
      rw [HT.sIx_nat, HT.sIx_none]
      rcases Nat.le_total c xs.length with z | z
      · rw [Nat.min_eq_left z, List.take_of_length_le (by rw [List.length_drop]; exact Nat.le_refl _)]
      · rw [Nat.min_eq_right z, List.drop_of_length_le (Nat.le_refl _), List.drop_of_length_le z, List.take_nil]
    refine ⟨a, xs, rfl, SqL.of ha2, fun p hp => ?_⟩
    rw [key]
    exact q _ _ (e.trans (same_upd hp)) (.lst upd_same ((hx2.drop c).go (same_upd hp)))⟩
theorem evd_uptoL {ds : List PyData} {c : Nat} (h : EvD te σ H (.list ds)) (hc : ∀ H', Same H H' → Ev tl σ H' (.int (c : Nat))) : EvD (tSl (rSlL K) te tNoPart (tPart tl)) σ H (.list (ds.take c)) := fun Q q =>
  h _ fun v H1 e1 hd => hc H1 e1 _ fun H2 e2 => ⟨_, rfl, by
    cases hd with
    | @lst a xs _ ha hx =>
    have ha2 := e2 _ _ ha
    have hx2 := hx.go e2
    have e := e1.trans e2
    have key : cutV xs none (some (c : Nat)) = xs.take c := by
      unfold cutV
      rw [HT.sIx_nat, HT.sIx_none, List.drop_zero, Nat.sub_zero]
      rcases Nat.le_total c xs.length with z | z
      · rw [Nat.min_eq_left z]
      · rw [Nat.min_eq_right z, List.take_of_length_le (Nat.le_refl _), List.take_of_length_le z]
    refine ⟨a, xs, rfl, SqL.of ha2, fun p hp => ?_⟩
    rw [key]
    exact q _ _ (e.trans (same_upd hp)) (.lst upd_same ((hx2.take c).go (same_upd hp)))⟩
theorem evd_tupL {ds : List PyData} (h : EvD te σ H (.list ds)) : EvD (tCB (rTupOf K) (tCons te tNil)) σ H (.tuple ds) := fun Q q =>
  h _ fun v H1 e1 hd => by
    cases hd with
    | @lst a xs _ ha hx => exact ⟨a, xs, rfl, .inl ⟨SqL.of ha, fun l hl => q _ _ (e1.trans (same_upd hl)) (.tup upd_same (hx.go (same_upd hl)))⟩⟩
abbrev rListOf (K : PySem.W.Frag) : List V → Hp → VK → Prop := fun xs H Q => ∃ p ys, xs = [.ref p] ∧ (SqL K H p ys ∨ SqT K H p ys) ∧ ∀ l, H l = none → Q (.ref l) (upd H l (.lst ys))
theorem evd_listT {ds : List PyData} (h : EvD te σ H (.tuple ds)) : EvD (tCB (rListOf K) (tCons te tNil)) σ H (.list ds) := fun Q q =>
  h _ fun v H1 e1 hd => by
    cases hd with
    | @tup a xs _ ha hx => exact ⟨a, xs, rfl, .inr (SqT.of ha), fun l hl => q _ _ (e1.trans (same_upd hl)) (.lst upd_same (hx.go (same_upd hl)))⟩
theorem el_listL {a : Addr} {xs : List V} (ha : Ev ta σ H (.ref a)) (h : H a = some (.lst xs)) : EvL (tCB (rListOf K) (tCons ta tNil)) σ H xs := fun Q q =>
  ha _ fun H1 e1 => ⟨a, xs, rfl, .inl (SqL.of (e1 _ _ h)), fun l hl => q l _ (e1.free hl) (e1.trans (same_upd hl)) upd_same⟩
/-- for x in range(n) -/
theorem q_forN1 {j n : Nat} {tu : TS} (hb : Ev tb σ H (.int (n : Nat))) (hl : n ≤ 100000) (Pv : Nat → L2.St → Hp → Prop) (h0 : ∀ H', Same H H' → Pv 0 σ H')
    (hs : ∀ i σ' H', i < n → Pv i σ' H' → tu { D with nx := Pv (i + 1), ct := Pv (i + 1), bk := u D } (σ'.set j (some (.int (i : Nat)))) H') (hd : ∀ σ' H', Pv n σ' H' → u D σ' H') : tSeq (tFor (iRng1 (tCons tb tNil)) (gName j) tu) u D σ H :=
  hb _ fun H1 e1 => ⟨(n : Nat), rfl, by omega, by omega, by
    have e : (((n : Nat) : Int)).toNat = n := by omega
    rw [e]
    exact for_it (walk_range (lo := 0) (n := n)) Pv (h0 H1 e1) (fun _ _ _ _ _ => True.intro) (fun i x σ' H3 H4 hi p y => by
      obtain ⟨rfl, rfl⟩ := y
      have z := hs i σ' _ hi p
      have e2 : ((i : Nat) : Int) = 0 + ((i : Nat) : Int) := by omega
      rw [e2] at z
      exact z) hd⟩
theorem q_forNX {j : Nat} {N : Nat → Prop} {tu : TS} (hb : EvN tb σ H N) (hl : ∀ n, N n → n ≤ 100000) (Ok : Nat → Nat → L2.St → Hp → Prop) (h0 : ∀ n H', N n → Same H H' → Ok n 0 σ H')
    (hs : ∀ n i σ' H', N n → i < n → Ok n i σ' H' → tu { D with nx := Ok n (i + 1), ct := Ok n (i + 1), bk := u D } (σ'.set j (some (.int (i : Nat)))) H') (hd : ∀ n σ' H', N n → Ok n n σ' H' → u D σ' H') : tSeq (tFor (iRng1 (tCons tb tNil)) (gName j) tu) u D σ H :=
  hb _ fun n H1 hn e1 => ⟨(n : Nat), rfl, by omega, by have := hl n hn; omega, by
    have e : (((n : Nat) : Int)).toNat = n := by omega
    rw [e]
    exact for_it (walk_range (lo := 0) (n := n)) (Ok n) (h0 n H1 hn e1) (fun _ _ _ _ _ => True.intro) (fun i x σ' H3 H4 hi p y => by
      obtain ⟨rfl, rfl⟩ := y
      have z := hs n i σ' _ hn hi p
      have e2 : ((i : Nat) : Int) = 0 + ((i : Nat) : Int) := by omega
      rw [e2] at z
      exact z) (fun σ' H' p => hd n σ' H' hn p)⟩
/-- an if of which no one knows -/
theorem q_ifX {tt : TT} {tu : TS} (h : ∀ Q : Bool → Hp → Prop, (∀ b H', Same H H' → Q b H') → tt σ H Q) (Ok : L2.St → Hp → Prop) (k : (∀ σ' H', Ok σ' H' → u D σ' H') → ∀ H', Same H H' → tu { D with nx := u D } σ H' ∧ Ok σ H') (hd : ∀ σ' H', Ok σ' H' → u D σ' H') : tSeq (tIfS tt tu tNext) u D σ H := h _ fun b H1 e1 => by
  have z := k hd H1 e1
  cases b with
  | true => exact iteT z.1
  | false => exact iteF (hd _ _ z.2)
theorem q_par2 {i j : Nat} {R1 : V → Hp → Prop} {R2 : V → V → Hp → Prop} (h1 : ∀ Q : VK, (∀ v H1, R1 v H1 → Q v H1) → ta σ H Q) (h2 : ∀ v H1, R1 v H1 → ∀ Q : VK, (∀ w H2, R2 v w H2 → Q w H2) → tb σ H1 Q)
    (k : ∀ v w H2, R2 v w H2 → u D ((σ.set i (some v)).set j (some w)) H2) : tSeq (tPar i j (tCons ta (tCons tb tNil))) u D σ H := h1 _ fun v H1 r1 => h2 v H1 r1 _ fun w H2 r2 => ⟨v, w, rfl, k v w H2 r2⟩
theorem s_par2 {i j : Nat} {R1 : V → Hp → Prop} {R2 : V → V → Hp → Prop} (h1 : ∀ Q : VK, (∀ v H1, R1 v H1 → Q v H1) → ta σ H Q) (h2 : ∀ v H1, R1 v H1 → ∀ Q : VK, (∀ w H2, R2 v w H2 → Q w H2) → tb σ H1 Q)
    (k : ∀ v w H2, R2 v w H2 → D.nx ((σ.set i (some v)).set j (some w)) H2) : tPar i j (tCons ta (tCons tb tNil)) D σ H := h1 _ fun v H1 r1 => h2 v H1 r1 _ fun w H2 r2 => ⟨v, w, rfl, k v w H2 r2⟩
end
/-- an if that is taken and leaves -/
theorem q_yes {tt : TT} {t u : TS} {D : Ends} {σ : L2.St} {H : Hp} (h : EvB tt σ H true) (k : ∀ H', Same H H' → t { D with nx := u D } σ H') : tSeq (tIfS tt t tNext) u D σ H := h _ fun H' e => iteT (k H' e)
/-! ### what is done one by one -/
def pre (r : Rows) (p m : Nat) : Row := (List.range m).map fun i => (Tidy.sq r.1 r.2 (p + i)).getD []
section
variable {P : Program} {w : World} {K : PySem.W.Frag} {mg : Str → Option Value} {base : Heap} {ad : Ad}
/-! ### place_behind -/
def spPB (C : Addr) : Sp := fun vs H Q _ => ∃ (x : Addr) (z : Str) (p m : Nat) (ks : Knots) (is : List (Str × PyData)) (os : List Str) (r : Rows), vs = [.ref x, .str z, .int p, .int m] ∧ NetAt H C x (kd ks) is os ∧ (kn ks).Nodup ∧ (z, r) ∈ ks ∧ 1 ≤ r.2.length ∧
  ∀ H', Same H H' → Q (.int (Tidy.st r.1.length r.2.length (p + m) : Nat)) H'
theorem scPB : FnScope ["self", "name", "place", "many", "front", "turn", "behind"] ["self", "name", "place", "many"] (defScope sPB) := ⟨rfl, rfl, rfl, by decide +kernel, rfl, by decide +kernel, by decide +kernel⟩
theorem ok_pb (T : Tc K mg ad) : FnOk P w K mg base CX0 2 ad.pb ad.dPB ["self", "name", "place", "many"] (spPB ad.cNet) := by
  refine T.tx.fPB.ok scPB (fun vs H Q E h => ?_) (fun cdv A outer s H vs Q E hr h => ?_)
  · obtain ⟨x, z, p, m, ks, is, os, r, rfl, _⟩ := h
    rfl
  · obtain ⟨x, z, p, m, ks, is, os, r, rfl, n, nd, hzr, t1, k⟩ := h
    obtain ⟨dx, ka, ia, oa, kv, iv, h1, h2, h3, h4, h5, h6⟩ := n.ex
    refine ⟨_, pss_cons (ps_asg (pe_dget (hu_of hr) (pe_fld (pv 0) rfl) (pv 1) (fun _ _ => rfl)) (pg_tup (by rfl) (pgs_cons (pg_name (i := 4) scPB.nd rfl (.inl rfl)) (pgs_cons (pg_name (i := 5) scPB.nd rfl (.inl rfl)) pgs_nil))))
      (pss_cons (ps_set (i := 6) scPB.nd rfl (.inl rfl) (pe_op op_add (pv 2) (pv 3)))
      (pss_cons (ps_if (pt_cmpR op_lt (pv 6) (pe_callB (call_lenK (K := K) rfl) (by rfl) T.tx.len PySem.boot_len (pa_cons (pv 4) pa_nil)) (nomark _)) (pss_one (ps_ret (pv 6))) pss_nil)
      (pss_one (ps_ret (pe_op op_add (pe_callB (call_lenK (K := K) rfl) (by rfl) T.tx.len PySem.boot_len (pa_cons (pv 4) pa_nil)) (pe_op op_mod (pe_op op_sub (pv 6) (pe_callB (call_lenK (K := K) rfl) (by rfl) T.tx.len PySem.boot_len (pa_cons (pv 4) pa_nil))) (pe_callB (call_lenK (K := K) rfl) (by rfl) T.tx.len PySem.boot_len (pa_cons (pv 5) pa_nil)))))))), ?_⟩
    obtain ⟨v, hv, dv⟩ := h3.get (kd_get nd hzr)
    obtain ⟨a, vf, vt, rfl, ha, hf, ht⟩ := dt_rows dv
    refine q_unpack2 (K := K) (ev_dget (k := .inr z) (ev_fld (K := K) (ev_tv rfl) h1 T.tx.cl T.tx.nKnots kn_f) (fun _ _ => ev_tv rfl) h2 hv) ha fun H1 e1 => ?_
    have mf : (r.1.map dDrop).length = r.1.length := List.length_map _
    have mt : (r.2.map dDrop).length = r.2.length := List.length_map _
    have lenF : ∀ {σ : L2.St} {H' : Hp}, σ[4]? = some (some vf) → Same H H' → Ev (tCB (rLen K) (tCons (tVar 4) tNil)) σ H' (.int (r.1.length : Nat)) := fun h0 e => by
      have z := ev_lenTD (K := K) (te := tVar 4) (evd_of (ev_tv h0) (hf.go e))
      rw [mf] at z
      exact z
    have lenT : ∀ {σ : L2.St} {H' : Hp}, σ[5]? = some (some vt) → Same H H' → Ev (tCB (rLen K) (tCons (tVar 5) tNil)) σ H' (.int (r.2.length : Nat)) := fun h0 e => by
      have z := ev_lenTD (K := K) (te := tVar 5) (evd_of (ev_tv h0) (ht.go e))
      rw [mt] at z
      exact z
    have epm : ((p + m : Nat) : Int) = ((p : Nat) : Int) + ((m : Nat) : Int) := by omega
    refine q_asg (v := .int ((p + m : Nat) : Int)) (by rw [epm]; exact ev_I0 (g := fun i j => .int (i + j)) (ev_tv rfl) fun _ _ => ev_tv rfl) fun H2 e2 => ?_
    have e12 := e1.trans e2
    by_cases c : p + m < r.1.length
    · have e : Tidy.st r.1.length r.2.length (p + m) = p + m := by unfold Tidy.st; rw [if_pos c]
      rw [e] at k
      refine q_yes (evb_is (EvB.of' (ev_I0 (g := fun i j => .bl (decide (i < j))) (ev_tv rfl) fun H3 e3 => lenF rfl (e12.trans e3))) (decide_eq_true (by omega))) fun H3 e3 => s_ret (ev_tv rfl) fun H4 e4 => k H4 (e12.trans (e3.trans e4))
    · have e : Tidy.st r.1.length r.2.length (p + m) = r.1.length + (p + m - r.1.length) % r.2.length := by unfold Tidy.st; rw [if_neg c]
      rw [e] at k
      refine q_no (evb_is (EvB.of' (ev_I0 (g := fun i j => .bl (decide (i < j))) (ev_tv rfl) fun H3 e3 => lenF rfl (e12.trans e3))) (decide_eq_false (by omega))) fun H3 e3 => ?_
      have e123 := e12.trans e3
      have sub : ∀ {H' : Hp}, Same H H' → Ev (tOp (rI0 fun i j => .int (i - j)) (tVar 6) (tCB (rLen K) (tCons (tVar 4) tNil))) [some (.ref x), some (.str z), some (.int (p : Nat)), some (.int (m : Nat)), some vf, some vt, some (.int ((p + m : Nat) : Int))] H' (.int ((p + m - r.1.length : Nat) : Int)) := fun e => by
        have z := ev_I0 (g := fun i j => .int (i - j)) (ta := tVar 6) (σ := [some (.ref x), some (.str z), some (.int (p : Nat)), some (.int (m : Nat)), some vf, some vt, some (.int ((p + m : Nat) : Int))]) (ev_tv rfl) fun H' e' => lenF rfl (e.trans e')
        have e3 : ((p + m - r.1.length : Nat) : Int) = ((p + m : Nat) : Int) - ((r.1.length : Nat) : Int) := by omega
        rw [e3]
        exact z
      refine s_ret (ev_I0 (g := fun i j => .int (i + j)) (lenF rfl e123) fun H4 e4 => ev_mod (sub (e123.trans e4)) (fun H5 e5 => lenT rfl (e123.trans (e4.trans e5))) t1) fun H4 e4 => k H4 (e123.trans e4)
end
end Bc

namespace Bc
open PySem L2 PyProof.Rows StX
theorem pre_succ (r : Rows) (p i : Nat) : pre r p (i + 1) = pre r p i ++ [(Tidy.sq r.1 r.2 (p + i)).getD []] := by
  unfold pre
  rw [List.range_succ, List.map_append]
  rfl
theorem pre_len (r : Rows) (p i : Nat) : (pre r p i).length = i := by
  unfold pre
  rw [List.length_map, List.length_range]
theorem map_drop_len (r : Row) : (r.map dDrop).length = r.length := List.length_map _
section
variable {P : Program} {w : World} {K : PySem.W.Frag} {mg : Str → Option Value} {base : Heap} {ad : Ad}
/-! ### _law_goes_on -/
def spGoes : Sp := fun vs H Q _ => ∃ (v : V) (r : Rows) (p m : Nat), vs = [v, .int p, .int m] ∧ Dt H v (dRows r) ∧ 1 ≤ r.2.length ∧ r.1.length ≤ 60 ∧ r.2.length ≤ 60 ∧ p < r.1.length + r.2.length ∧ m ≤ 1000 ∧
  ∀ l xs H', H l = none → Same H H' → H' l = some (.lst xs) → Dts H' xs ((pre r p m).map dDrop) → Q (.ref l) H'
theorem scGoes : FnScope ["rows", "place", "many", "found", "all_rows", "turn"] ["rows", "place", "many"] (defScope sGoes) := ⟨rfl, rfl, rfl, by decide +kernel, rfl, by decide +kernel, by decide +kernel⟩
theorem ok_goes (T : Tx K mg ad) : FnOk P w K mg base CX0 2 ad.goes ad.dGoes ["rows", "place", "many"] spGoes := by
  refine T.fGoes.ok scGoes (fun vs H Q E h => ?_) (fun cdv A outer s H vs Q E hr h => ?_)
  · obtain ⟨v, r, p, m, rfl, _⟩ := h
    rfl
  · obtain ⟨v, r, p, m, rfl, hv, t1, f60, t60, hp, hm, k⟩ := h
    refine ⟨_, pss_cons (ps_par (i := 3) (j := 4) rfl scGoes.nd rfl rfl (by decide) rfl rfl (pa_cons (pe_lst pa_nil) (pa_cons (pe_op op_cat (pe_callTy call_list_of (by rfl) T.list b_list (pa_cons (pe_ix ix_tup (pv 0) pe_int (fun _ _ => rfl)) pa_nil)) (pe_callTy call_list_of (by rfl) T.list b_list (pa_cons (pe_ix ix_tup (pv 0) pe_int (fun _ _ => rfl)) pa_nil))) pa_nil)) rfl)
      (pss_cons (ps_for PassesOwn.never rfl (pi_range1 (by rfl) T.range (pa_cons (pv 2) pa_nil)) (pg_name (i := 5) scGoes.nd rfl (.inl rfl))
        (pss_cons (ps_expr (pe_bm PySem.F.plainAttrs_list PySem.F.slot_list_append PySem.F.type_list_append mt_append (pv 3) (pa_cons (pe_ix ix_list (pv 4) (pv 1) (fun _ _ => rfl)) pa_nil)))
        (pss_one (ps_set (i := 1) scGoes.nd rfl (.inl rfl) (pe_ifExp (pt_cmpR op_lt (pe_op op_add (pv 1) pe_int) (pe_callB (call_lenK (K := K) rfl) (by rfl) T.len PySem.boot_len (pa_cons (pv 4) pa_nil)) (nomark _)) (pe_op op_add (pv 1) pe_int) (pe_callB (call_lenK (K := K) rfl) (by rfl) T.len PySem.boot_len (pa_cons (pe_ix ix_tup (pv 0) pe_int (fun _ _ => rfl)) pa_nil)))))))
      (pss_one (ps_ret (pv 3)))), ?_⟩
    have mf := map_drop_len r.1
    have mt := map_drop_len r.2
    have r0 : ∀ {σ : L2.St} {H' : Hp}, σ[0]? = some (some v) → Same H H' → EvD (tOp (rIxT K) (tVar 0) (tC (.int 0))) σ H' (dRow r.1) := fun h0 e => evd_ixT (K := K) (i := 0) (evd_of (ev_tv h0) (hv.go e)) (fun _ _ => ev_tc) rfl
    have r1 : ∀ {σ : L2.St} {H' : Hp}, σ[0]? = some (some v) → Same H H' → EvD (tOp (rIxT K) (tVar 0) (tC (.int 1))) σ H' (dRow r.2) := fun h0 e => evd_ixT (K := K) (i := 1) (evd_of (ev_tv h0) (hv.go e)) (fun _ _ => ev_tc) rfl
    refine q_par2 (R1 := fun v1 H' => ∃ l, v1 = .ref l ∧ H l = none ∧ Same H H' ∧ H' l = some (.lst [])) (R2 := fun v1 v2 H' => ∃ l b xs, v1 = .ref l ∧ v2 = .ref b ∧ b ≠ l ∧ H l = none ∧ Same H H' ∧ H' l = some (.lst []) ∧ H' b = some (.lst xs) ∧ Dts H' xs ((r.1 ++ r.2).map dDrop))
      (fun Q1 q1 => ⟨Nat.zero_le _, fun l hl => q1 _ _ ⟨l, rfl, hl, same_upd hl, upd_same⟩⟩) (fun v1 H1 h1 Q1 q1 => ?_) fun v1 v2 H2 h2 => ?_
    · obtain ⟨l, rfl, hl0, e1, hl⟩ := h1
      refine evd_listT (K := K) (r0 rfl e1) _ fun w1 H3 e3 d1 => evd_listT (K := K) (r1 rfl (e1.trans e3)) _ fun w2 H4 e4 d2 => ?_
      cases d1 with
      | @lst a1 x1 _ ha1 hx1 =>
      cases d2 with
      | @lst a2 x2 _ ha2 hx2 =>
      have hx1' := hx1.go e4
      have l1 : x1.length = r.1.length := by rw [hx1.length, mf]
      have l2 : x2.length = r.2.length := by rw [hx2.length, mt]
      refine ⟨a1, a2, x1, x2, rfl, rfl, e4 _ _ ha1, ha2, sz (by omega), fun b hb => q1 _ _ ⟨l, b, x1 ++ x2, rfl, rfl, ?_, hl0, e1.trans (e3.trans (e4.trans (same_upd hb))), (e3.trans (e4.trans (same_upd hb))) _ _ hl, upd_same, ?_⟩⟩
      · exact (ne_of_none ((e3.trans e4) _ _ hl) hb).symm
      · rw [List.map_append]
        exact (hx1'.append hx2).go (same_upd hb)
    · obtain ⟨l, b, xs, rfl, rfl, nbl, hl0, e2, hl, hb, hx⟩ := h2
      have tp : 0 < r.2.length := t1
      have xl : xs.length = r.1.length + r.2.length := by rw [hx.length, map_drop_len, List.length_append]
      refine q_forN1 (n := m) (ev_tv rfl) (by omega) (fun i σ H' => ∃ x5 vs, σ = [some v, some (.int (Tidy.st r.1.length r.2.length (p + i) : Nat)), some (.int (m : Nat)), some (.ref l), some (.ref b), x5] ∧ Same H H' ∧ H' l = some (.lst vs) ∧ Dts H' vs ((pre r p i).map dDrop) ∧ H' b = some (.lst xs) ∧ Dts H' xs ((r.1 ++ r.2).map dDrop))
        (fun H3 e3 => ⟨none, [], by rw [Nat.add_zero, Tidy.st_id hp]; rfl, e2.trans e3, e3 _ _ hl, .nil, e3 _ _ hb, hx.go e3⟩) (fun i σ H3 hi pp => ?_) fun σ H3 pp => ?_
      · obtain ⟨x5, vs, rfl, e3, hl3, hvs, hb3, hx3⟩ := pp
        have hst : Tidy.st r.1.length r.2.length (p + i) < r.1.length + r.2.length := Tidy.st_lt tp
        obtain ⟨d, hd⟩ := Tidy.sq_some (f := r.1) (t := r.2) (n := p + i) tp
        have hd2 : (r.1 ++ r.2)[Tidy.st r.1.length r.2.length (p + i)]? = some d := hd
        obtain ⟨y, hy, hyd⟩ := hx3.get (drow_get hd2)
        have vl : vs.length = i := by rw [hvs.length, map_drop_len, pre_len]
        refine q_app (K := K) (l := l) (xs := vs) (v := y) hl3 (ev_tv rfl) (fun H4 e4 => fun Q4 q4 => ⟨_, rfl, _, rfl, b, xs, ((Tidy.st r.1.length r.2.length (p + i) : Nat) : Int), y, rfl, rfl, SqL.of (e4 _ _ hb3), atI_nat hy, q4 H4 (Same.refl _)⟩) (by omega) fun H4 e4 => ?_
        have ts : Tsm H3 (upd H4 l (.lst (vs ++ [y]))) := (Tsm.same e4).trans (Tsm.upd fun xs z => by rw [e4 _ _ hl3] at z; cases z)
        have e5 : Same H (upd H4 l (.lst (vs ++ [y]))) := Same.mut (e3.trans e4) hl0
        have hb5 : upd H4 l (.lst (vs ++ [y])) b = some (.lst xs) := by rw [upd_ne nbl]; exact e4 _ _ hb3
        have hl5 : upd H4 l (.lst (vs ++ [y])) l = some (.lst (vs ++ [y])) := upd_same
        have hvs5 : Dts (upd H4 l (.lst (vs ++ [y]))) (vs ++ [y]) ((pre r p (i + 1)).map dDrop) := by
          rw [pre_succ, List.map_append]
          refine (hvs.drops_ts ts).append ?_
          rw [hd]
          exact .cons (hyd.drop_ts ts) .nil
        have hx5 := hx3.drops_ts ts
        generalize upd H4 l (.lst (vs ++ [y])) = H5 at e5 hb5 hl5 hvs5 hx5
        have ep1 : ((Tidy.st r.1.length r.2.length (p + i) + 1 : Nat) : Int) = ((Tidy.st r.1.length r.2.length (p + i) : Nat) : Int) + 1 := by omega
        have lenA : ∀ {σ : L2.St} {H' : Hp}, σ[4]? = some (some (.ref b)) → Same H5 H' → Ev (tCB (rLen K) (tCons (tVar 4) tNil)) σ H' (.int (xs.length : Nat)) := fun h0 e => ev_lenL (K := K) (ev_tv h0) (e _ _ hb5)
        have lenF : ∀ {σ : L2.St} {H' : Hp}, σ[0]? = some (some v) → Same H5 H' → Ev (tCB (rLen K) (tCons (tOp (rIxT K) (tVar 0) (tC (.int 0))) tNil)) σ H' (.int (r.1.length : Nat)) := fun h0 e => by
          have z := ev_lenTD (K := K) (r0 h0 (e5.trans e))
          rw [mf] at z
          exact z
        have ifx : Ev (tIf (tTest (tOp (rI0 fun i j => .bl (decide (i < j))) (tOp (rI0 fun i j => .int (i + j)) (tVar 1) (tC (.int 1))) (tCB (rLen K) (tCons (tVar 4) tNil)))) (tOp (rI0 fun i j => .int (i + j)) (tVar 1) (tC (.int 1))) (tCB (rLen K) (tCons (tOp (rIxT K) (tVar 0) (tC (.int 0))) tNil))) [some v, some (.int (Tidy.st r.1.length r.2.length (p + i) : Nat)), some (.int (m : Nat)), some (.ref l), some (.ref b), some (.int (i : Nat))] H5 (.int (Tidy.st r.1.length r.2.length (p + (i + 1)) : Nat)) := by
          have es := Tidy.st_succ (F := r.1.length) (T := r.2.length) (n := p + i) tp
          rw [Nat.add_assoc] at es
          refine fun Q5 q5 => (EvB.of' (ev_I0 (g := fun i j => .bl (decide (i < j))) (ev_I0 (g := fun i j => .int (i + j)) (ev_tv rfl) fun _ _ => ev_tc) fun H6 e6 => lenA rfl e6)) _ fun H6 e6 => ?_
          rw [xl]
          by_cases c : Tidy.st r.1.length r.2.length (p + i) + 1 < r.1.length + r.2.length
          · rw [if_pos c] at es
            rw [es, ep1] at q5
            rw [decide_eq_true (by omega)]
            refine iteT ?_
            exact ev_I0 (g := fun i j => .int (i + j)) (ev_tv rfl) (fun _ _ => ev_tc) _ fun H7 e7 => q5 H7 (e6.trans e7)
          · rw [if_neg c] at es
            rw [es] at q5
            rw [decide_eq_false (by omega)]
            refine iteF ?_
            exact lenF rfl e6 _ fun H7 e7 => q5 H7 (e6.trans e7)
        exact ifx _ fun H6 e6 => ⟨_, _, rfl, e5.trans e6, e6 _ _ hl5, hvs5.go e6, e6 _ _ hb5, hx5.go e6⟩
      · obtain ⟨x5, vs, rfl, e3, hl3, hvs, hb3, hx3⟩ := pp
        exact s_ret (ev_tv rfl) fun H4 e4 => k _ _ H4 hl0 (e3.trans e4) (e4 _ _ hl3) (hvs.go e4)
end
end Bc

namespace Bc
open PySem L2 PyProof.Rows StX
section
variable {K : PySem.W.Frag} {σ : L2.St} {H : Hp} {te tk : TE}
theorem evd_repL {ds : List PyData} {k : Nat} (h : EvD te σ H (.list ds)) (h2 : k ≤ 1000) (h4 : ds.length ≤ 1000) : EvD (tOp rRep te (tC (.int (k : Nat)))) σ H (.list (List.replicate k ds).flatten) := fun Q q =>
  h _ fun v H1 e1 hd => by
    cases hd with
    | @lst a xs _ ha hx =>
      have hl := hx.length
      have e : ((k : Nat) : Int).toNat = k := Int.toNat_natCast k
      refine ⟨a, (k : Nat), xs, rfl, rfl, ha, by omega, by omega, ?_, fun p hp => ?_⟩
      · rw [e]
        have : xs.length * k ≤ 1000 * 1000 := Nat.mul_le_mul (by omega) h2
        exact Nat.le_trans this (by decide)
      · rw [e]
        exact q _ _ (e1.trans (same_upd hp)) (.lst upd_same ((dts_rep hx k).go (same_upd hp)))
end
theorem s_asgD {te : TE} {σ : L2.St} {H : Hp} {D : Ends} {d : PyData} {i : Nat} (h : EvD te σ H d) (k : ∀ v H', Same H H' → Dt H' v d → D.nx (σ.set i (some v)) H') : tAsg te (gName i) D σ H := h _ fun v H' e p => k v H' e p
theorem s_ifX {tt : TT} {tu : TS} {σ : L2.St} {H : Hp} {D : Ends} (h : ∀ Q : Bool → Hp → Prop, (∀ b H', Same H H' → Q b H') → tt σ H Q) (k : ∀ H', Same H H' → tu D σ H') (k2 : ∀ H', Same H H' → D.nx σ H') : tIfS tt tu tNext D σ H := h _ fun b H1 e1 => by
  cases b with
  | true => exact iteT (k H1 e1)
  | false => exact iteF (k2 H1 e1)
/-- rows that do the same -/
structure PadOk (r : Rows) (n : Nat) (f t : Row) : Prop where
  fl : f.length ≤ n
  t1 : 1 ≤ t.length
  t12 : t.length ≤ 12
  sq : ∀ i, Tidy.sq f t i = Tidy.sq r.1 r.2 i
  memF : ∀ d ∈ f, d ∈ r.1 ∨ d ∈ r.2
  memT : ∀ d, d ∈ t ↔ d ∈ r.2
theorem pad_lap {r : Rows} {n : Nat} {f t : Row} (p : PadOk r n f t) : ∃ x, t[0]? = some x ∧ PadOk r (n + 1) (f ++ [x]) (t.drop 1 ++ t.take 1) := by
  have pt1 := p.t1
  have h0 : t[0]? = some (t[0]'pt1) := List.getElem?_eq_getElem pt1
  have lt : (t.drop 1 ++ t.take 1).length = t.length := by
    rw [List.length_append, List.length_drop, List.length_take]
    omega
  have mem : ∀ d, d ∈ t.drop 1 ++ t.take 1 ↔ d ∈ t := fun d => by
    rw [List.mem_append, Or.comm, ← List.mem_append, List.take_append_drop]
  refine ⟨_, h0, by rw [List.length_append]; have := p.fl; show f.length + 1 ≤ n + 1; omega, by rw [lt]; exact p.t1, by rw [lt]; exact p.t12, fun i => ?_, fun d hd => ?_, fun d => by rw [mem]; exact p.memT d⟩
  · rw [Tidy.sq_lap h0]
    exact p.sq i
  · rcases List.mem_append.mp hd with h | h
    · exact p.memF d h
    · rw [List.mem_singleton.mp h]
      exact .inr ((p.memT _).mp (List.getElem_mem _))
theorem pad_twice {r : Rows} {n : Nat} {f t : Row} (p : PadOk r n f t) (h : t.length ≤ 6) : PadOk r n f (Tidy.rep 2 t) := by
  have l := Tidy.rep_len 2 t
  have pt1 := p.t1
  refine ⟨p.fl, by omega, by omega, fun i => by rw [Tidy.sq_twice p.t1]; exact p.sq i, p.memF, fun d => ⟨fun h => (p.memT d).mp (rep_mem h), fun h => ?_⟩⟩
  have h2 := (p.memT d).mpr h
  show d ∈ (List.replicate 2 t).flatten
  exact List.mem_flatten.mpr ⟨t, List.mem_replicate.mpr ⟨by decide, rfl⟩, h2⟩
theorem pad_0 {r : Rows} (h1 : r.1.length ≤ 2) (h2 : 1 ≤ r.2.length) (h3 : r.2.length ≤ 12) : PadOk r 2 r.1 r.2 := ⟨h1, h2, h3, fun _ => rfl, fun d h => .inl h, fun d => Iff.rfl⟩
theorem PadOk.mono {r : Rows} {n m : Nat} {f t : Row} (p : PadOk r n f t) (h : n ≤ m) : PadOk r m f t := ⟨Nat.le_trans p.fl h, p.t1, p.t12, p.sq, p.memF, p.memT⟩
section
variable {P : Program} {w : World} {K : PySem.W.Frag} {mg : Str → Option Value} {base : Heap} {ad : Ad}
/-! ### _law_padded -/
def spPad (K : PySem.W.Frag) : Sp := fun vs H Q _ => ∃ (s : Addr) (ns : List Int) (at_ : Nat) (v : V) (r : Rows), vs = [.ref s, .int at_, v] ∧ SqL K H s (ns.map V.int) ∧ ns.length ≤ 63 ∧ at_ ≤ 1000 ∧ Dt H v (dRows r) ∧ r.1.length ≤ 2 ∧ 1 ≤ r.2.length ∧ r.2.length ≤ 5 ∧
  ∀ v H' f t, Same H H' → PadOk r 5 f t → Dt H' v (dRows (f, t)) → Q v H'
theorem scPad : FnScope ["script", "at", "rows", "front", "turn", "lap"] ["script", "at", "rows"] (defScope sPad) := ⟨rfl, rfl, rfl, by decide +kernel, rfl, by decide +kernel, by decide +kernel⟩
theorem ok_pad (T : Tx K mg ad) : FnOk P w K mg base CX0 3 ad.pad ad.dPad ["script", "at", "rows"] (spPad K) := by
  have GD : FnOk P w K mg base CX0 2 ad.draw ad.dDraw ["script", "at", "many"] (spDraw K) := ok_draw T
  have bD := T.fDraw.binds (ps := ["script", "at", "many"]) fun _ _ _ _ _ _ us hl => match us, hl with | [_, _, _], _ => rfl
  refine T.fPad.ok scPad (fun vs H Q E h => ?_) (fun cdv A outer s H vs Q E hr h => ?_)
  · obtain ⟨sa, ns, at_, v, r, rfl, _⟩ := h
    rfl
  · obtain ⟨sa, ns, at_, v, r, rfl, hS, hl, hat, hv, l1, l2, l3, k⟩ := h
    refine ⟨_, pss_cons (ps_par (i := 3) (j := 4) rfl scPad.nd rfl rfl (by decide) rfl rfl (pa_cons (pe_callTy call_list_of (by rfl) T.list b_list (pa_cons (pe_ix ix_tup (pv 2) pe_int (fun _ _ => rfl)) pa_nil)) (pa_cons (pe_callTy call_list_of (by rfl) T.list b_list (pa_cons (pe_ix ix_tup (pv 2) pe_int (fun _ _ => rfl)) pa_nil)) pa_nil)) rfl)
      (pss_cons (ps_if (PW.pt (pw_and (pt_cmpR op_eq (pe_call GD hr (by rfl) T.gDraw T.fDraw.kp bD .nil pass0 (pa_cons (pv 0) (pa_cons (pv 1) (pa_cons pe_int pa_nil)))) pe_int (nomark _)) (pw_and1 (pt_cmpR op_lt (pe_callB (call_lenK (K := K) rfl) (by rfl) T.len PySem.boot_len (pa_cons (pv 4) pa_nil)) pe_int (nomark _)))))
        (pss_one (ps_set (i := 4) scPad.nd rfl (.inl rfl) (pe_op op_rep (pv 4) pe_int))) pss_nil)
      (pss_cons (ps_for PassesOwn.never rfl (pi_range1 (by rfl) T.range (pa_cons (pe_call GD hr (by rfl) T.gDraw T.fDraw.kp bD .nil pass0 (pa_cons (pv 0) (pa_cons (pe_op op_add (pv 1) pe_int) (pa_cons pe_int pa_nil)))) pa_nil)) (pg_name (i := 5) scPad.nd rfl (.inl rfl))
        (pss_one (ps_if (pt_cmpR op_lt (pe_callB (call_lenK (K := K) rfl) (by rfl) T.len PySem.boot_len (pa_cons (pv 3) pa_nil)) pe_int (nomark _))
          (pss_one (ps_par (i := 3) (j := 4) rfl scPad.nd rfl rfl (by decide) rfl rfl (pa_cons (pe_op op_cat (pv 3) (pe_lst (pa_cons (pe_ix ix_list (pv 4) pe_int (fun _ _ => rfl)) pa_nil))) (pa_cons (pe_op op_cat (pe_slice sl_list (pv 4) (po_some pe_int) po_none) (pe_slice sl_list (pv 4) po_none (po_some pe_int))) pa_nil)) rfl)) pss_nil)))
      (pss_one (ps_ret (pe_tup (pa_cons (pe_callTy call_tuple_of (by rfl) T.tuple b_tuple (pa_cons (pv 3) pa_nil)) (pa_cons (pe_callTy call_tuple_of (by rfl) T.tuple b_tuple (pa_cons (pv 4) pa_nil)) pa_nil))))))), ?_⟩
    have dr : ∀ {σ : L2.St} {H1 : Hp} {E' : XK} {ta tm : TE} {a m : Nat}, Same H H1 → σ[0]? = some (some (.ref sa)) → (∀ H', Same H1 H' → Ev ta σ H' (.int (a : Nat))) → (∀ H', Same H1 H' → Ev tm σ H' (.int (m : Nat))) → a ≤ 100000 → 1 ≤ m → m ≤ 100000 →
        EvN (tCall (spDraw K) [] E' (tCons (tVar 0) (tCons ta (tCons tm tNil)))) σ H1 fun r => r < m := fun e h0 ha hm h1 h2 h3 =>
      evn_draw (ea_cons (ev_tv h0) fun H2 e2 => ea_cons (ha H2 e2) fun H3 e3 => ea_cons (hm H3 (e2.trans e3)) fun _ _ => ea_nil) (Same.seqL e hS) hl h1 h2 h3
    have r0 : ∀ {σ : L2.St} {H' : Hp}, σ[2]? = some (some v) → Same H H' → EvD (tOp (rIxT K) (tVar 2) (tC (.int 0))) σ H' (dRow r.1) := fun h0 e => evd_ixT (K := K) (i := 0) (evd_of (ev_tv h0) (hv.go e)) (fun _ _ => ev_tc) rfl
    have r1 : ∀ {σ : L2.St} {H' : Hp}, σ[2]? = some (some v) → Same H H' → EvD (tOp (rIxT K) (tVar 2) (tC (.int 1))) σ H' (dRow r.2) := fun h0 e => evd_ixT (K := K) (i := 1) (evd_of (ev_tv h0) (hv.go e)) (fun _ _ => ev_tc) rfl
    refine q_par2 (R1 := fun v1 H' => Same H H' ∧ Dt H' v1 (.list (r.1.map dDrop))) (R2 := fun v1 v2 H' => Same H H' ∧ Dt H' v1 (.list (r.1.map dDrop)) ∧ Dt H' v2 (.list (r.2.map dDrop))) (fun Q1 q1 => evd_listT (K := K) (r0 rfl (Same.refl _)) _ fun v1 H1 e1 d1 => q1 _ _ ⟨e1, d1⟩)
      (fun v1 H1 h1 Q1 q1 => evd_listT (K := K) (r1 rfl h1.1) _ fun v2 H2 e2 d2 => q1 _ _ ⟨h1.1.trans e2, h1.2.go e2, d2⟩) fun v1 v2 H2 h2 => ?_
    obtain ⟨e2, d1, d2⟩ := h2
    have lenL : ∀ {σ : L2.St} {H' : Hp} {i : Nat} {x : V} {l : Row}, σ[i]? = some (some x) → Dt H' x (.list (l.map dDrop)) → Ev (tCB (rLen K) (tCons (tVar i) tNil)) σ H' (.int (l.length : Nat)) := fun {σ H' i x l} h0 hd => by
      have z := ev_lenDl (K := K) (te := tVar i) (evd_of (ev_tv h0) hd)
      rw [map_drop_len] at z
      exact z
    let Ok : Nat → L2.St → Hp → Prop := fun n σ H' => ∃ vf vt x5 f t, σ = [some (.ref sa), some (.int (at_ : Nat)), some v, some vf, some vt, x5] ∧ Same H H' ∧ Dt H' vf (.list (f.map dDrop)) ∧ Dt H' vt (.list (t.map dDrop)) ∧ PadOk r n f t
    refine q_ifX (fun Q1 q1 => dr (a := at_) (m := 2) e2 rfl (fun _ _ => ev_tv rfl) (fun _ _ => ev_tc) (by omega) (by decide) (by decide) _ fun n H3 hn e3 => ?_) (Ok 2) (fun rest H3 e3 => ⟨?_, v1, v2, none, r.1, r.2, rfl, e2.trans e3, d1.go e3, d2.go e3, pad_0 l1 l2 (by omega)⟩) (fun σ H3 p => ?_)
    · refine ⟨rfl, _, rfl, ?_⟩
      cases hb : decide (V.int (n : Nat) = V.int 0) with
      | false => exact iteF (q1 _ _ e3)
      | true =>
        refine iteT ?_
        exact (EvB.of' (ev_I0 (g := fun i j => .bl (decide (i < j))) (lenL rfl (d2.go e3)) fun _ _ => ev_tc)) _ fun H4 e4 => q1 _ _ (e3.trans e4)
    · refine s_asgD (d := .list ((Tidy.rep 2 r.2).map dDrop)) ?_ fun v' H4 e4 hd => rest _ _ ⟨v1, v', none, r.1, Tidy.rep 2 r.2, rfl, e2.trans (e3.trans e4), d1.go (e3.trans e4), hd, pad_twice (pad_0 l1 l2 (by omega)) (by omega)⟩
      have z := evd_repL (k := 2) (te := tVar 4) (σ := [some (.ref sa), some (.int (at_ : Nat)), some v, some v1, some v2, none]) (evd_of (ev_tv rfl) (d2.go e3)) (by decide) (by rw [map_drop_len]; omega)
      have e : (List.replicate 2 (r.2.map dDrop)).flatten = (Tidy.rep 2 r.2).map dDrop := by
        have z2 := drow_rep 2 r.2
        unfold dRow at z2
        injection z2
      rw [e] at z
      exact z
    · obtain ⟨vf, vt, x5, f, t, rfl, e3, df, dt, pk⟩ := p
      have ea1 : ((at_ + 1 : Nat) : Int) = ((at_ : Nat) : Int) + 1 := by omega
      refine q_forNX (N := fun n => n < 4) (dr (a := at_ + 1) (m := 4) e3 rfl (fun H4 e4 => by rw [ea1]; exact ev_I0 (g := fun i j => .int (i + j)) (ev_tv rfl) fun _ _ => ev_tc) (fun _ _ => ev_tc) (by omega) (by decide) (by decide)) (fun n hn => by omega) (fun _ i => Ok (2 + i)) (fun n H4 hn e4 => ⟨vf, vt, x5, f, t, rfl, e3.trans e4, df.go e4, dt.go e4, pk⟩) (fun n i σ H4 hn hi p => ?_) fun n σ H4 hn p => ?_
      · obtain ⟨vf, vt, x5, f, t, rfl, e4, df, dt, pk⟩ := p
        refine s_ifX (fun Q1 q1 => (EvB.of' (ev_I0 (g := fun i j => .bl (decide (i < j))) (lenL rfl df) fun _ _ => ev_tc)) _ fun H5 e5 => q1 _ _ e5) (fun H5 e5 => ?_) fun H5 e5 => ⟨vf, vt, some (.int (i : Nat)), f, t, rfl, e4.trans e5, df.go e5, dt.go e5, pk.mono (by omega)⟩
        obtain ⟨x, hx, pk2⟩ := pad_lap pk
        have pt1 := pk.t1
        have pt12 := pk.t12
        have pf := pk.fl
        refine s_par2 (R1 := fun v1 H' => Same H5 H' ∧ Dt H' v1 (.list ((f ++ [x]).map dDrop))) (R2 := fun v1 v2 H' => Same H5 H' ∧ Dt H' v1 (.list ((f ++ [x]).map dDrop)) ∧ Dt H' v2 (.list ((t.drop 1 ++ t.take 1).map dDrop))) (fun Q1 q1 => ?_) (fun v1 H1 h1 Q1 q1 => ?_) fun v1 v2 H6 h6 => ⟨v1, v2, some (.int (i : Nat)), _, _, rfl, e4.trans (e5.trans h6.1), h6.2.1, h6.2.2, pk2⟩
        · refine evd_catL (ds := f.map dDrop) (es := [dDrop x]) (evd_of (ev_tv rfl) (df.go e5)) (fun H6 e6 => evd_lst1 (evd_ixL (K := K) (i := 0) (evd_of (ev_tv rfl) (dt.go (e5.trans e6))) (fun _ _ => ev_tc) (drow_get hx))) (by rw [map_drop_len]; show f.length + 1 ≤ 100000; omega) _ fun v' H6 e6 hd => q1 _ _ ⟨e6, by rw [List.map_append]; exact hd⟩
        · refine evd_catL (ds := (t.map dDrop).drop 1) (es := (t.map dDrop).take 1) (evd_fromL (K := K) (c := 1) (evd_of (ev_tv rfl) (dt.go (e5.trans h1.1))) fun _ _ => ev_tc) (fun H6 e6 => evd_uptoL (K := K) (c := 1) (evd_of (ev_tv rfl) (dt.go (e5.trans (h1.1.trans e6)))) fun _ _ => ev_tc) (by rw [List.length_drop, List.length_take, map_drop_len]; omega) _ fun v' H6 e6 hd => q1 _ _ ⟨h1.1.trans e6, h1.2.go e6, by rw [List.map_append, List.map_drop, List.map_take]; exact hd⟩
      · obtain ⟨vf, vt, x5, f, t, rfl, e4, df, dt, pk⟩ := p
        refine s_retD (d := dRows (f, t)) (evd_tup2 (evd_tupL (K := K) (evd_of (ev_tv rfl) df)) fun H5 e5 => evd_tupL (K := K) (evd_of (ev_tv rfl) (dt.go e5))) fun v' H5 e5 hd => k v' H5 f t (e4.trans e5) (pk.mono (by omega)) hd
end
end Bc

namespace Bc
open PySem L2 PyProof.Rows StX
theorem b_bool : bootBuiltins "bool" = some (.type "bool") := by decide +kernel
theorem b_any : bootBuiltins "any" = some (.builtin "any") := by decide +kernel
/-- beside: the errors' classes -/
structure Tb (P : Program) (K : PySem.W.Frag) (mg : Str → Option Value) (a : Ad) : Prop where
  tc : Tc K mg a
  bad : PySem.Bn.Txt K mg a.cBad a.badInit a.cellBad a.codeBad a.fileBad
  kC : PySem.W.keepIn K (.ref a.cBad) = true
  exC : PySem.W.subIn K (.ref a.cBad) (.type "BaseException") = some true
  tyC : PySem.W.typeIn K (.ref a.cBad) = some (.type "type")
  te : PySem.W.exmOne K (.ref a.cBad) (.ref a.cBad) = some true
  file_ : ((P.main.file : Str) == a.fileBad) = true
  top_ : (P.main.scope.names.lookup ("super" : Str)).isSome = false
  xf : XfC K a.cBad
  gS : mg "BadStanding" = some (.ref a.cStd)
  xS : PySem.W.excIn K a.cStd [.type "ValueError", .type "Exception", .type "BaseException", .type "object"] "ValueError.__new__" = true
  kS : PySem.W.keepIn K (.ref a.cStd) = true
  bS : PySem.W.subIn K (.ref a.cStd) (.type "BaseException") = some true
  tS : PySem.W.typeIn K (.ref a.cStd) = some (.type "type")
  teS : PySem.W.exmOne K (.ref a.cStd) (.ref a.cStd) = some true
theorem Tb.at {P : Program} {K : PySem.W.Frag} {mg : Str → Option Value} {a : Ad} (T : Tb P K mg a) {X : Cx} (h1 : X.prog = P) (h2 : X.K = K) (h3 : X.mg = mg) : Bn.BadC X a.cBad a.badInit a.cellBad a.codeBad a.fileBad := by
  subst h1 h2 h3
  exact ⟨T.bad, T.kC, T.exC, T.tyC, T.file_, T.top_⟩
/-- BadNet with that name, raised: the heap as it was, but for the error's own dict -/
def Raised (C : Addr) (v : V) (H : Hp) (E : XK) : Prop := ∀ d H', Same H H' → H' d = none → E (.ref C) (some d) (upd H' d (.xd [(("name" : Str), v)]))
theorem Raised.go {C : Addr} {v : V} {H H' : Hp} {E : XK} (r : Raised C v H E) (e : Same H H') : Raised C v H' E := fun d H2 e2 hd => r d H2 (e.trans e2) hd
theorem s_raiseN {C : Addr} {te : TE} {W : WX} {D : Ends} {σ : L2.St} {H : Hp} {v : V} (h : Ev te σ H v) (tv : Bn.TellV v) (r : Raised C v H (fun cls d H' => W cls d σ H')) : Bn.tRaiseBad C W (tCons te tNil) D σ H := h _ fun H' e => ⟨v, rfl, tv, fun d hd => r d H' e hd⟩
def RaisedS (S : Addr) (H : Hp) (E : XK) : Prop := ∀ H', Same H H' → E (.ref S) none H'
theorem RaisedS.go {C : Addr} {H H' : Hp} {E : XK} (r : RaisedS C H E) (e : Same H H') : RaisedS C H' E := fun H2 e2 => r H2 (e.trans e2)
/-- a thing that is no net -/
def NotNet (H : Hp) (v : V) : Prop := v = .non ∨ (∃ i, v = .int i) ∨ (∃ z, v = .str z) ∨ ∃ a kvs, v = .ref a ∧ H a = some (.dK kvs)
theorem NotNet.go {H H' : Hp} {v : V} (h : NotNet H v) (e : Same H H') : NotNet H' v := by
  rcases h with h | h | h | ⟨a, kvs, h1, h2⟩
  · exact .inl h
  · exact .inr (.inl h)
  · exact .inr (.inr (.inl h))
  · exact .inr (.inr (.inr ⟨a, kvs, h1, e _ _ h2⟩))
/-- what a standing is told by, and whether it is one -/
def okV : V → Nat → Bool
  | .int i, n => decide (0 ≤ i) && decide (i < (n : Int))
  | _, _ => false
def stD (ks : Knots) (g : Str → V) : List (Key × V) := (kn ks).map fun z => (.inr z, g z)
def StV (H : Hp) (ks : Knots) (v : V) (b : Bool) : Prop :=
  (v = .non ∧ b = false) ∨ (∃ a, v = .ref a ∧ H a = some (.dK []) ∧ b = false) ∨ ∃ (a : Addr) (g : Str → V), v = .ref a ∧ H a = some (.dK (stD ks g)) ∧ (∀ z ∈ kn ks, (∃ i, g z = .int i) ∨ ∃ c, g z = .bl c) ∧ b = ks.all fun p => okV (g p.1) (p.2.1.length + p.2.2.length)
theorem StV.go {H H' : Hp} {ks : Knots} {v : V} {b : Bool} (h : StV H ks v b) (e : Same H H') : StV H' ks v b := by
  rcases h with h | ⟨a, h1, h2, h3⟩ | ⟨a, g, h1, h2, h3, h4⟩
  · exact .inl h
  · exact .inr (.inl ⟨a, h1, e _ _ h2, h3⟩)
  · exact .inr (.inr ⟨a, g, h1, e _ _ h2, h3, h4⟩)
theorem stD_at {ks : Knots} {g : Str → V} {z : Str} (h : z ∈ kn ks) : valV (stD ks g) (.inr z) = some (g z) := by
  unfold stD
  generalize kn ks = l at h
  induction l with
  | nil => cases h
  | cons y r ih =>
    rw [List.map_cons, valV_cons]
    by_cases e : y = z
    · rw [if_pos (by rw [e]), e]
    · rw [if_neg (fun q => e (Sum.inr.inj q))]
      rcases List.mem_cons.mp h with h | h
      · exact absurd h.symm e
      · exact ih h
theorem ev_dget1 {td ty : TE} {σ : L2.St} {H : Hp} {a : Addr} {kvs : List (Key × V)} {k : Key} (ha : Ev td σ H (.ref a)) (hk : ∀ H', Same H H' → Ev ty σ H' (kV k)) (h : H a = some (.dK kvs)) : Ev (tDGet1 td ty) σ H ((valV kvs k).getD .non) := fun Q q =>
  ha _ fun H1 e1 => ⟨a, rfl, (.inl ⟨_, .inl (e1 _ _ h)⟩), hk H1 e1 _ fun H2 e2 => ⟨_, DGet.k (k := k) ((e1.trans e2) _ _ h), q H2 (e1.trans e2)⟩⟩
section
variable {P : Program} {w : World} {K : PySem.W.Frag} {mg : Str → Option Value} {base : Heap} {ad : Ad}
/-! ### is_number -/
def spIsNum : Sp := fun vs H Q _ => ∃ (v : V) (b : Bool), vs = [v] ∧ ((∃ i, v = .int i ∧ b = true) ∨ (∃ c, v = .bl c ∧ b = false)) ∧ ∀ H', Same H H' → Q (.bl b) H'
theorem scIsNum : FnScope ["told"] ["told"] (defScope sIsNum) := ⟨rfl, rfl, rfl, by decide +kernel, rfl, by decide +kernel, by decide +kernel⟩
theorem ok_isNum (T : Tx K mg ad) : FnOk P w K mg base CX0 2 ad.isNum ad.dIsNum ["told"] spIsNum := by
  refine T.fIsNum.ok scIsNum (fun vs H Q E h => ?_) (fun cdv A outer s H vs Q E hr h => ?_)
  · obtain ⟨v, b, rfl, _⟩ := h
    rfl
  · obtain ⟨v, b, rfl, hv, k⟩ := h
    refine ⟨_, pss_one (ps_ret (pe_and (pe_isi rfl T.isinstance (pv 0) (pe_ty T.int b_int)) (pe_one (pe_not (pe_isi rfl T.isinstance (pv 0) (pe_ty T.bool b_bool)))))), ?_⟩
    rcases hv with ⟨i, rfl, rfl⟩ | ⟨c, rfl, rfl⟩
    · exact s_ret (Ev.andV (a := true) (b := true) (ev_isi (ev_tv rfl) (fun H' e => .base (.int i)) (kit_ty (by decide +kernel))) fun _ H1 e1 => fun Q1 q1 => ev_isi (b := false) (ev_tv rfl) (fun H' e => .base (.int i)) (kit_ty (by decide +kernel)) _ fun H2 e2 => ⟨false, rfl, q1 H2 e2⟩) fun H' e => k H' e
    · exact s_ret (Ev.andV (a := true) (b := false) (ev_isi (ev_tv rfl) (fun H' e => .base (.bl c)) (kit_ty (by decide +kernel))) fun _ H1 e1 => fun Q1 q1 => ev_isi (b := true) (ev_tv rfl) (fun H' e => .base (.bl c)) (kit_ty (by decide +kernel)) _ fun H2 e2 => ⟨true, rfl, q1 H2 e2⟩) fun H' e => k H' e
/-! ### check_net -/
def spChNet (C B : Addr) : Sp := fun vs H Q E => ∃ v : V, vs = [v] ∧ ((∃ x dx fs, v = .ref x ∧ H x = some (.ins C dx fs) ∧ ∀ H', Same H H' → Q .non H') ∨ (NotNet H v ∧ Raised B .non H E))
theorem scChNet : FnScope ["net"] ["net"] (defScope sChNet) := ⟨rfl, rfl, rfl, by decide +kernel, rfl, by decide +kernel, by decide +kernel⟩
theorem ok_chNet (T : Tb P K mg ad) : FnOk P w K mg base (L2.CX P w) 2 ad.chNet ad.dChNet ["net"] (spChNet ad.cNet ad.cBad) := by
  have U := T.tc
  refine T.tc.tx.fChNet.okX scChNet (fun vs H Q E h => ?_) (fun cdv A outer s H vs Q E hr h => ?_)
  · obtain ⟨v, rfl, _⟩ := h
    rfl
  · obtain ⟨v, rfl, h⟩ := h
    refine ⟨_, pss_one (ps_if (pt_not (pt_val (pe_isi rfl T.tc.tx.isinstance (pv 0) (pe_glob (v := .ref ad.cNet) (by rfl) T.tc.tx.gNet rfl)))) (pss_one (Bn.ps_raiseBad rfl (T.at rfl rfl rfl) hr (takes_of rfl rfl rfl rfl) (by exact (pa_cons pe_non pa_nil)))) pss_nil), ?_⟩
    rcases h with ⟨x, dx, fs, rfl, hx, k⟩ | ⟨hn, r⟩
    · exact s_no (EvB.not (EvB.of (b := true) (Same.of_isi (ev_tv rfl) (fun H' e => .base (.ins (e _ _ hx) U.tx.cl U.iC U.iS U.iT U.iM)) U.isO))) fun H1 e1 => k H1 e1
    · have isno : Ev (tCB (rIsi K) (tCons (tVar 0) (tCons (tC (.ref ad.cNet)) tNil))) [some v] H (.bl false) := by
        rcases hn with rfl | ⟨i, rfl⟩ | ⟨z, rfl⟩ | ⟨a, kvs, rfl, ha⟩
        · exact Same.of_isi (ev_tv rfl) (fun H' e => .base .non) U.isN
        · exact Same.of_isi (ev_tv rfl) (fun H' e => .base (.int i)) U.isI
        · exact Same.of_isi (ev_tv rfl) (fun H' e => .base (.str z)) U.isS
        · exact Same.of_isi (ev_tv rfl) (fun H' e => .base (.dK (e _ _ ha))) U.isD
      exact if_yes (EvB.not (EvB.of isno)) fun H1 e1 => s_raiseN ev_tc trivial (r.go e1)
/-! ### is_standing -/
def spIsSt (C : Addr) : Sp := fun vs H Q _ => ∃ (x : Addr) (v : V) (ks : Knots) (is : List (Str × PyData)) (os : List Str) (b : Bool), vs = [.ref x, v] ∧ NetAt H C x (kd ks) is os ∧ (kn ks).Nodup ∧ 1 ≤ ks.length ∧ ks.length ≤ 60 ∧ StV H ks v b ∧ ∀ H', Same H H' → Q (.bl b) H'
theorem scIsSt : FnScope ["net", "told", "knot", "front", "turn", "place"] ["net", "told"] (defScope sIsSt) := ⟨rfl, rfl, rfl, by decide +kernel, rfl, by decide +kernel, by decide +kernel⟩
theorem ok_isSt (T : Tc K mg ad) : FnOk P w K mg base CX0 4 ad.isSt ad.dIsSt ["net", "told"] (spIsSt ad.cNet) := by
  have GI : FnOk P w K mg base CX0 2 ad.isNum ad.dIsNum ["told"] spIsNum := ok_isNum T.tx
  have bI := T.tx.fIsNum.binds (ps := ["told"]) fun _ _ _ _ _ _ us hl => match us, hl with | [_], _ => rfl
  have GL : FnOk P w K mg base CX0 2 ad.len ad.dLen ["self"] (spLen ad.cNet) := ok_len T
  have bL := T.tx.fLen.binds (ps := ["self"]) fun _ _ _ _ _ _ us hl => match us, hl with | [_], _ => rfl
  refine T.tx.fIsSt.ok scIsSt (fun vs H Q E h => ?_) (fun cdv A outer s H vs Q E hr h => ?_)
  · obtain ⟨x, v, ks, is, os, b, rfl, _⟩ := h
    rfl
  · obtain ⟨x, v, ks, is, os, b, rfl, n, nd, k1, k60, hv, k⟩ := h
    have hr2 : Room 2 _ := hr.mono (by decide)
    refine ⟨_, pss_cons (ps_if (PW.pt (pw_or (pt_not (pt_val (pe_isi rfl T.tx.isinstance (pv 1) (pe_ty T.tx.dict b_dict)))) (pw_or1 (pt_cmpR op_ne (pe_callB call_lenD (by rfl) T.tx.len PySem.boot_len (pa_cons (pv 1) pa_nil)) (pe_callB (cr_lenO GL bL pass0 hr T.oLen) (by rfl) T.tx.len PySem.boot_len (pa_cons (pv 0) pa_nil)) (nomark _))))) (pss_one (ps_ret pe_bl)) pss_nil)
      (pss_cons (ps_lock (ps_for PassesOwn.never rfl (pi_items (pe_fld (pv 0) rfl)) (pg_tup (by rfl) (pgs_cons (pg_name (i := 2) scIsSt.nd rfl (.inl rfl)) (pgs_cons (pg_tup (by rfl) (pgs_cons (pg_name (i := 3) scIsSt.nd rfl (.inl rfl)) (pgs_cons (pg_name (i := 4) scIsSt.nd rfl (.inl rfl)) pgs_nil))) pgs_nil)))
        (pss_cons (ps_set (i := 5) scIsSt.nd rfl (.inl rfl) (pe_dget1 (hu_of hr) (pv 1) (pv 2) ⟨rfl, rfl, rfl, rfl⟩))
        (pss_one (ps_if (PW.pt (pw_or (pt_not (pt_val (pe_call GI hr2 (by rfl) T.tx.gIsNum T.tx.fIsNum.kp bI .nil pass0 (pa_cons (pv 5) pa_nil)))) (pw_or1 (pt_not (pt_chain op_le op_lt pe_int (pv 5) (pe_op op_add (pe_callB (call_lenK (K := K) rfl) (by rfl) T.tx.len PySem.boot_len (pa_cons (pv 3) pa_nil)) (pe_callB (call_lenK (K := K) rfl) (by rfl) T.tx.len PySem.boot_len (pa_cons (pv 4) pa_nil)))))))) (pss_one (ps_ret pe_bl)) pss_nil)))))
      (pss_one (ps_ret pe_bl))), ?_⟩
    obtain ⟨dx, ka, ia, oa, kv, iv, h1, h2, h3, h4, h5, h6⟩ := n.ex
    have kdl : (kd ks).length = ks.length := List.length_map _
    have lenN : ∀ {H' : Hp}, Same H H' → Ev (tCB (rLenO ad.cNet (spLen ad.cNet) E0) (tCons (tVar 0) tNil)) [some (.ref x), some v, none, none, none, none] H' (.int (ks.length : Nat)) := fun e => by
      have z := ev_lenN (C := ad.cNet) (E := E0) (ta := tVar 0) (σ := [some (.ref x), some v, none, none, none, none]) (ev_tv rfl) (n.go e) (by omega)
      rw [kdl] at z
      exact z
    rcases hv with ⟨rfl, rfl⟩ | ⟨a, rfl, ha, rfl⟩ | ⟨a, g, rfl, ha, hg, rfl⟩
    · exact q_yes (EvB.or (b := false) (EvB.not (EvB.of (b := false) (ev_isi (ev_tv rfl) (fun H' e => .base .non) (kit_ty (by decide +kernel))))) fun z => absurd z (by decide)) fun H1 e1 => s_ret ev_tc fun H' e => k H' (e1.trans e)
    · refine q_yes (evb_is (EvB.or (EvB.not (EvB.of (ev_isDict (ev_tv rfl) ha))) fun _ H1 e1 => EvB.of' (ev_ne (x := .int ((0 : Nat) : Int)) (y := .int (ks.length : Nat)) (ev_lenD (ev_tv rfl) (e1 _ _ ha)) (fun H2 e2 => lenN (e1.trans e2)) rfl)) ?_) fun H1 e1 => s_ret ev_tc fun H' e => k H' (e1.trans e)
      show (false || !decide (V.int ((0 : Nat) : Int) = V.int (ks.length : Nat))) = true
      rw [decide_eq_false (fun z => by injection z with z; omega)]
      rfl
    · have sl : (stD ks g).length = ks.length := by
        unfold stD
        rw [List.length_map]
        exact List.length_map _
      refine q_no (evb_is (EvB.or (EvB.not (EvB.of (ev_isDict (ev_tv rfl) ha))) fun _ H1 e1 => EvB.of' (ev_ne (x := .int ((stD ks g).length : Nat)) (y := .int (ks.length : Nat)) (ev_lenD (ev_tv rfl) (e1 _ _ ha)) (fun H2 e2 => lenN (e1.trans e2)) rfl)) ?_) fun H1 e1 => ?_
      · rw [sl, decide_eq_true rfl]
        rfl
      have n1 := n.go e1
      replace h1 := e1 _ _ h1
      replace h2 := e1 _ _ h2
      replace h3 := h3.go e1
      replace ha := e1 _ _ ha
      have aka : a ≠ ka := fun e => by
        rw [e, h2] at ha
        injection ha with ha
        injection ha with ha
        rw [ha] at h3
        cases ks with
        | nil => exact absurd k1 (by decide)
        | cons p r =>
          obtain ⟨z, rr⟩ := p
          have hz := hg z List.mem_cons_self
          cases h3 with
          | cons hd _ =>
            obtain ⟨_, _, _, e2, _⟩ := dt_rows hd
            rcases hz with ⟨i, hi⟩ | ⟨c, hc⟩
            · rw [hi] at e2
              cases e2
            · rw [hc] at e2
              cases e2
      have xka : x ≠ ka := ne_of h1 h2 (by intro z; cases z)
      refine q_items (K := K) (u := tRet (tC (.bl true))) h2 h3 (k := fun od => ⟨fun H2 e2 => ev_fld (K := K) (ev_tv rfl) (e2 _ _ (by rw [upd_ne xka]; exact h1)) T.tx.cl T.tx.nKnots kn_f,
        fun i σ H' => (∃ x2 x3 x4 x5, σ = [some (.ref x), some (.ref a), x2, x3, x4, x5]) ∧ Same (upd H1 ka (.frz od (.dK kv))) H' ∧ (ks.take i).all (fun p => okV (g p.1) (p.2.1.length + p.2.2.length)) = true,
        fun H2 e2 => ⟨⟨_, _, _, _, rfl⟩, e2, rfl⟩, fun i σ H' p => p.2.1, fun i σ H' H'' e p => ⟨p.1, p.2.1.trans e, p.2.2⟩, fun i z r vf vt σ H2 bk ct hi p hf ht => ?_, fun σ H2 p => ?_⟩)
      · obtain ⟨⟨x2, x3, x4, x5, rfl⟩, e2, hall⟩ := p
        have hz : z ∈ kn ks := List.mem_map.mpr ⟨_, List.mem_of_getElem? hi, rfl⟩
        have ha2 : H2 a = some (.dK (stD ks g)) := e2 _ _ (by rw [upd_ne aka]; exact ha)
        have hget := stD_at (g := g) hz
        have pl : Ev (tDGet1 (tVar 1) (tVar 2)) [some (.ref x), some (.ref a), some (.str z), some vf, some vt, x5] H2 (g z) := by
          have q := ev_dget1 (td := tVar 1) (ty := tVar 2) (σ := [some (.ref x), some (.ref a), some (.str z), some vf, some vt, x5]) (k := .inr z) (ev_tv rfl) (fun _ _ => ev_tv rfl) ha2
          rw [hget] at q
          exact q
        refine q_asg pl fun H3 e3 => ?_
        have mf := map_drop_len r.1
        have mt := map_drop_len r.2
        have lenF : ∀ {σ : L2.St} {H' : Hp}, σ[3]? = some (some vf) → Same H2 H' → Ev (tCB (rLen K) (tCons (tVar 3) tNil)) σ H' (.int (r.1.length : Nat)) := fun h0 e => by
          have z := ev_lenTD (K := K) (te := tVar 3) (evd_of (ev_tv h0) (hf.go e))
          rw [mf] at z
          exact z
        have lenT : ∀ {σ : L2.St} {H' : Hp}, σ[4]? = some (some vt) → Same H2 H' → Ev (tCB (rLen K) (tCons (tVar 4) tNil)) σ H' (.int (r.2.length : Nat)) := fun h0 e => by
          have z := ev_lenTD (K := K) (te := tVar 4) (evd_of (ev_tv h0) (ht.go e))
          rw [mt] at z
          exact z
        have tst : EvB (tOr (tNot (tB (tCall spIsNum [] E0 (tCons (tVar 5) tNil)))) (tNot (tB (tChain (rI0 fun i j => .bl (decide (i ≤ j))) (rI0 fun i j => .bl (decide (i < j))) (tC (.int 0)) (tVar 5) (tOp (rI0 fun i j => .int (i + j)) (tCB (rLen K) (tCons (tVar 3) tNil)) (tCB (rLen K) (tCons (tVar 4) tNil))))))) [some (.ref x), some (.ref a), some (.str z), some vf, some vt, some (g z)] H3 (!okV (g z) (r.1.length + r.2.length)) := by
          rcases hg z hz with ⟨i', hi'⟩ | ⟨c, hc⟩
          · rw [hi']
            refine evb_is (EvB.or (EvB.not (EvB.of (b := true) (ev_call (ea_cons (ev_tv rfl) fun _ _ => ea_nil) fun H4 e4 Q4 q4 => ⟨_, true, rfl, .inl ⟨_, rfl, rfl⟩, q4⟩))) fun _ H4 e4 => EvB.not (EvB.of (ev_chain (g := fun i j => decide (i ≤ j)) (g' := fun i j => decide (i < j)) ev_tc (fun _ _ => ev_tv rfl) fun H5 e5 => ev_I0 (g := fun i j => .int (i + j)) (lenF rfl (e3.trans (e4.trans e5))) fun H6 e6 => lenT rfl (e3.trans (e4.trans (e5.trans e6)))))) ?_
            have e : ((r.1.length + r.2.length : Nat) : Int) = ((r.1.length : Nat) : Int) + ((r.2.length : Nat) : Int) := by omega
            show _ = !(decide (0 ≤ i') && decide (i' < ((r.1.length + r.2.length : Nat) : Int)))
            rw [e]
            rfl
          · rw [hc]
            exact EvB.or (a := true) (b := false) (EvB.not (EvB.of (b := false) (ev_call (ea_cons (ev_tv rfl) fun _ _ => ea_nil) fun H4 e4 Q4 q4 => ⟨_, false, rfl, .inr ⟨_, rfl, rfl⟩, q4⟩))) fun z => absurd z (by decide)
        have hil : i < ks.length := (List.getElem?_eq_some_iff.mp hi).1
        cases hok : okV (g z) (r.1.length + r.2.length) with
        | true =>
          rw [hok] at tst
          refine s_no tst fun H4 e4 => ⟨⟨_, _, _, _, rfl⟩, e2.trans (e3.trans e4), ?_⟩
          rw [take_snoc hi, List.all_append, hall]
          show (okV (g z) (r.1.length + r.2.length) && true) = true
          rw [hok]
          rfl
        | false =>
          rw [hok] at tst
          refine if_yes tst fun H4 e4 => s_ret ev_tc fun H5 e5 => ?_
          have e25 := e2.trans (e3.trans (e4.trans e5))
          refine ⟨e25 _ _ upd_same, ?_⟩
          have bf : (ks.all fun p => okV (g p.1) (p.2.1.length + p.2.2.length)) = false := List.all_eq_false.mpr ⟨_, List.mem_of_getElem? hi, by rw [hok]; decide⟩
          rw [bf] at k
          exact k _ (e1.trans (same_unlock h2 e25))
      · obtain ⟨⟨x2, x3, x4, x5, rfl⟩, e2, hall⟩ := p
        rw [List.take_length] at hall
        rw [hall] at k
        exact s_ret ev_tc fun H3 e3 => k _ (e1.trans ((same_unlock h2 e2).trans e3))
/-! ### check_standing -/
def spChSt (C S : Addr) : Sp := fun vs H Q E => ∃ (x : Addr) (v : V) (ks : Knots) (is : List (Str × PyData)) (os : List Str) (b : Bool), vs = [.ref x, v] ∧ NetAt H C x (kd ks) is os ∧ (kn ks).Nodup ∧ 1 ≤ ks.length ∧ ks.length ≤ 60 ∧ StV H ks v b ∧ (b = true → ∀ H', Same H H' → Q .non H') ∧ (b = false → RaisedS S H E)
theorem scChSt : FnScope ["net", "standing"] ["net", "standing"] (defScope sChSt) := ⟨rfl, rfl, rfl, by decide +kernel, rfl, by decide +kernel, by decide +kernel⟩
theorem ok_chSt (T : Tb P K mg ad) : FnOk P w K mg base (L2.CX P w) 5 ad.chSt ad.dChSt ["net", "standing"] (spChSt ad.cNet ad.cStd) := by
  have GI : FnOk P w K mg base CX0 4 ad.isSt ad.dIsSt ["net", "told"] (spIsSt ad.cNet) := ok_isSt T.tc
  have bI := T.tc.tx.fIsSt.binds (ps := ["net", "told"]) fun _ _ _ _ _ _ us hl => match us, hl with | [_, _], _ => rfl
  refine T.tc.tx.fChSt.okX scChSt (fun vs H Q E h => ?_) (fun cdv A outer s H vs Q E hr h => ?_)
  · obtain ⟨x, v, ks, is, os, b, rfl, _⟩ := h
    rfl
  · obtain ⟨x, v, ks, is, os, b, rfl, n, nd, k1, k60, hv, k, kr⟩ := h
    refine ⟨_, pss_one (ps_if (pt_not (pt_val (pe_call GI hr (by rfl) T.tc.tx.gIsSt T.tc.tx.fIsSt.kp bI .nil pass0 (pa_cons (pv 0) (pa_cons (pv 1) pa_nil))))) (pss_one (ps_raise rfl (takes_of rfl rfl rfl rfl) (pmk_own PySem.F.excBase_ValueError T.xS T.gS T.kS (raises_own T.bS T.tS) rfl))) pss_nil), ?_⟩
    have tst : EvB (tNot (tB (tCall (spIsSt ad.cNet) [] E0 (tCons (tVar 0) (tCons (tVar 1) tNil))))) [some (.ref x), some v] H (!b) := EvB.not (EvB.of (ev_call (ea_cons (ev_tv rfl) fun _ _ => ea_cons (ev_tv rfl) fun _ _ => ea_nil) fun H1 e1 Q1 q1 => ⟨x, v, ks, is, os, b, rfl, n.go e1, nd, k1, k60, hv.go e1, q1⟩))
    cases b with
    | true => exact s_no tst fun H1 e1 => k rfl H1 e1
    | false => exact if_yes tst fun H1 e1 => kr rfl H1 e1
end
end Bc

namespace Bc
open PySem L2 PyProof.Rows StX
/-- drawn knots, ascending -/
structure SK (n : Nat) (ks : Knots) : Prop where
  g : GK n ks
  hkn : kn ks = ab.take n
def tr (r : Rows) : Rows := Tidy.shr r.1 r.2
def tks (ks : Knots) : Knots := ks.map fun p => (p.1, tr p.2)
theorem kn_tks (ks : Knots) : kn (tks ks) = kn ks := by
  unfold kn tks
  rw [List.map_map]
  rfl
theorem tks_take (ks : Knots) (i : Nat) : (tks ks).take i = tks (ks.take i) := by
  unfold tks
  rw [List.map_take]
theorem tks_mem {ks : Knots} {z : Str} {r : Rows} (h : (z, r) ∈ ks) : (z, tr r) ∈ tks ks := List.mem_map.mpr ⟨(z, r), h, rfl⟩
theorem SK.tidy {n : Nat} {ks : Knots} (s : SK n ks) : SK n (tks ks) := by
  have g := s.g
  refine ⟨⟨g.pos, g.le, by rw [kn_tks]; exact g.perm, fun p hp => ?_, fun j x r y h1 h2 h3 => ?_⟩, by rw [kn_tks]; exact s.hkn⟩
  · obtain ⟨⟨z, r⟩, hm, rfl⟩ := List.mem_map.mp hp
    have q := g.rows _ hm
    have q2 : 0 < r.2.length := q.l2
    obtain ⟨a1, _, a3, a4⟩ := Tidy.shr_is (f := r.1) q2
    obtain ⟨m1, m2⟩ := Tidy.shr_mem (f := r.1) q2
    exact ⟨Nat.le_trans a3 q.l1, a1.pos, Nat.le_trans a4 q.l3, fun d hd => q.ok1 d (m1 d hd), fun d hd => q.ok2 d ((m2 d).mp hd)⟩
  · obtain ⟨⟨z, r0⟩, hm, e⟩ := List.mem_map.mp h2
    cases e
    have q := g.rows _ hm
    have q2 : 0 < r0.2.length := q.l2
    obtain ⟨m1, m2⟩ := Tidy.shr_mem (f := r0.1) q2
    exact (m2 _).mpr (g.next j _ r0 y h1 hm h3)
theorem SK.nd {n : Nat} {ks : Knots} (s : SK n ks) : (kn ks).Nodup := nd_ab s.g
theorem SK.len {n : Nat} {ks : Knots} (s : SK n ks) : ks.length = n := len_ab s.g
theorem SK.srtk {n : Nat} {ks : Knots} (s : SK n ks) : srtD (kd ks) = kd ks := srtD_kd s.g.perm s.hkn fun _ h => h
theorem GRows.rowOk {n : Nat} {r : Rows} (g : GRows n r) : RowOk r.1 ∧ RowOk r.2 := ⟨fun d hd _ hx => ok_tgs ((g.ok1 d hd).2 _ hx), fun d hd _ hx => ok_tgs ((g.ok2 d hd).2 _ hx)⟩
/-- a net of these, with the inlets i and j -/
abbrev NetS (H : Hp) (C x : Addr) (ks : Knots) (y : Str) : Prop := NetAt H C x (kd ks) (id_ (is0 y)) ["o", "p"]
section
variable {C : Addr} {H : Hp} {E : XK} {t : TA} {σ : L2.St}
theorem er_netS {n : Nat} {ks : Knots} {y : Str} (s : SK n ks) (hy : y ∈ ab.take n) {os : List Str} (hos : os = (["o", "p"] : List Str) ∨ os = (["p", "o"] : List Str))
    (h : ∀ Q : List V → Hp → Prop, (∀ a b c kv iv H', Same H H' → a ≠ b → H' a = some (.dK kv) → Dk H' kv (kd ks) → H' b = some (.dK iv) → Dk H' iv (id_ (is0 y)) → (H' c = some (.lst (os.map V.str)) ∨ H' c = some (.tup (os.map V.str))) → Q [.ref a, .ref b, .ref c] H') → t σ H Q)
    (Q : VK) (q : ∀ x H', H x = none → Same H H' → NetNew H H' C x (kd ks) (id_ (is0 y)) ["o", "p"] → Q (.ref x) H') : tMake C (spInit C) [] E t σ H Q := by
  rcases hos with rfl | rfl
  · refine er_net (n := n) (ks := ks) (is := is0 y) (os := ["o", "p"]) s.g (gi_is0 s.g.pos hy) go_op h Q fun x H' h0 e nn => q x H' h0 e ?_
    rw [s.srtk, srtD_is0, srt_op] at nn
    exact nn
  · refine er_net (n := n) (ks := ks) (is := is0 y) (os := ["p", "o"]) s.g (gi_is0 s.g.pos hy) go_po h Q fun x H' h0 e nn => q x H' h0 e ?_
    rw [s.srtk, srtD_is0, srt_po] at nn
    exact nn
end
/-- a call as a statement, whatever its end -/
theorem q_dropS {sp : Sp} {E : L2.St → XK} {t : TA} {u : TS} {D : Ends} {σ : L2.St} {H : Hp} {vs : List V} (h : EvA t σ H vs) (k : ∀ H', Same H H' → sp vs H' (fun _ H2 => u D σ H2) (E σ)) : tSeq (tDrop (tCallS sp E t)) u D σ H := h _ fun H' e => k H' e
theorem dk_ts {H H' : Hp} : ∀ {l : List (Str × PyData)} {kvs : List (Key × V)}, (∀ p ∈ l, ∀ v, Dt H v p.2 → Dt H' v p.2) → Dk H kvs l → Dk H' kvs l
  | [], _, _, .nil => .nil
  | p :: l, _, h, .cons h1 h2 => .cons (h p List.mem_cons_self _ h1) (dk_ts (fun q hq => h q (List.mem_cons_of_mem _ hq)) h2)
/-- x = {z: v for z, (f, t) in d.items()}, rows of knots -/
theorem q_dcItems {K : PySem.W.Frag} {te tk tv : TE} {u : TS} {D' : Ends} {σ : L2.St} {H : Hp} {ka : Addr} {kv : List (Key × V)} {ks : Knots} {i0 i j l n m : Nat} {vs : List Nat} (f : Str × Rows → PyData) (hka : H ka = some (.dK kv)) (hk : Dk H kv (kd ks)) (hn : n = 2 := by rfl) (hm : m = 2 := by rfl)
    (he : ∀ od H', Same (upd H ka (.frz od (.dK kv))) H' → Ev te σ H' (.ref ka)) (hts : ∀ p ∈ ks, ∀ (H H' : Hp) v, Tsm H H' → Dt H v (f p) → Dt H' v (f p)) (nd : (kn ks).Nodup) (few : ks.length ≤ 1000)
    (hw : ∀ a b c, wipe ((((wipe σ vs).set i a).set j b).set l c) vs = wipe σ vs)
    (hs : ∀ z r vf vt H', (z, r) ∈ ks → (∃ od, Same (upd H ka (.frz od (.dK kv))) H') → Dt H' vf (dRow r.1) → Dt H' vt (dRow r.2) → Ev tk ((((wipe σ vs).set i (some (.str z))).set j (some vf)).set l (some vt)) H' (.str z) ∧ ∀ H2, Same H' H2 → EvD tv ((((wipe σ vs).set i (some (.str z))).set j (some vf)).set l (some vt)) H2 (f (z, r)))
    (k : ∀ D kvs H', H D = none → Same H H' → H' D = some (.dK kvs) → Dk H' kvs (ks.map fun p => (p.1, f p)) → u D' (σ.set i0 (some (.ref D))) H') :
    tSeq (tLock (tAsg (tDc (iItems te) (gTup K n (gCons (gName i) (gCons (gTup K m (gCons (gName j) (gCons (gName l) gNil))) gNil))) tYes tk tv vs) (gName i0))) u D' σ H := by
  refine ⟨ka, _, hka, True.intro, fun od => ?_⟩
  refine he od _ (Same.refl _) _ fun H1 e1 => ⟨ka, od, kv, rfl, e1 _ _ upd_same, fun D hD => ?_⟩
  have kl : kv.length = ks.length := by rw [hk.length]; exact List.length_map _
  have hDL : upd H ka (.frz od (.dK kv)) D = none := e1.free hD
  have Dka : D ≠ ka := fun z => by rw [z, upd_same] at hDL; cases hDL
  have hDH : H D = none := by rw [upd_ne Dka] at hDL; exact hDL
  refine dc_it (walk_items (d := ka) (o := od) (kvs := kv)) (fun g H' => Same (upd H ka (.frz od (.dK kv))) H' ∧ ∃ kvs, H' D = some (.dK kvs) ∧ Dk H' kvs ((ks.take g).map fun p => (p.1, f p))) ⟨Same.mut e1 hDL, [], upd_same, .nil⟩ (fun g H' _ p => p.1 _ _ upd_same) (fun g x H2 H3 hi p y => ?_) (fun H' p => ?_)
  · obtain ⟨eS, kvs, hx, hd⟩ := p
    obtain ⟨t, kx, v, rfl, ht, rfl, hu, hv⟩ := y
    obtain ⟨⟨pk, pval⟩, hp, rfl⟩ := Option.map_eq_some_iff.mp hu
    replace hv : kv[g]?.map Prod.snd = some v := hv
    rw [hp] at hv
    obtain rfl : pval = v := Option.some.inj hv
    obtain ⟨z, r, hg, rfl, hdt⟩ := dk_at hk hp
    have e3 := eS.trans (same_upd (o := HO.tup [kV (.inr z), pval]) ht)
    have d2 : Dt (upd H2 t (.tup [kV (.inr z), pval])) pval (dRows r) := hdt.rows_ts ((lock_ts hka).trans (Tsm.same e3))
    obtain ⟨a, vf, vt, rfl, ha, hf, htt⟩ := dt_rows d2
    have hm2 : (z, r) ∈ ks := List.mem_of_getElem? hg
    obtain ⟨q1, q2⟩ := hs z r vf vt _ hm2 ⟨od, e3⟩ hf htt
    have hx3 := same_upd (o := HO.tup [kV (.inr z), V.ref a]) ht _ _ hx
    have hd3 := hd.go (same_upd (o := HO.tup [kV (.inr z), V.ref a]) ht)
    refine ⟨t, _, rfl, SqT.of upd_same, hn.symm, _, _, rfl, _, _, rfl, a, [vf, vt], rfl, SqT.of ha, hm.symm, _, _, rfl, _, _, rfl, rfl, rfl, hw _ _ _, ?_⟩
    show tk _ _ _
    refine q1 _ fun H4 e4 => q2 H4 e4 _ fun v5 H5 e5 hd5 => ?_
    have e45 := e4.trans e5
    have kvl : kvs.length = ((ks.take g).map fun p => (p.1, f p)).length := hd.length
    have hgl : g < ks.length := (List.getElem?_eq_some_iff.mp hg).1
    rw [List.length_map, List.length_take] at kvl
    have new : valV kvs (.inr z) = none := valV_no fun mm => by
      have hk2 := hd.keys
      have mm2 : (Sum.inr z : Key) ∈ kvs.map (·.1) := mm
      rw [hk2] at mm2
      obtain ⟨z', hz', e⟩ := List.mem_map.mp mm2
      have e' : z' = z := Sum.inr.inj e
      subst e'
      rw [List.map_map] at hz'
      have hz2 : z' ∈ (kn ks).take g := by
        unfold kn
        rw [← List.map_take]
        exact hz'
      have hkz : (kn ks)[g]? = some z' := by
        unfold kn
        rw [List.getElem?_map, hg]
        rfl
      exact not_in_take nd hkz hz2
    refine ⟨kvs, .inr z, rfl, e45 _ _ hx3, szl (by omega), Same.mut (e3.trans e45) hDL, kvs ++ [(.inr z, v5)], ?_, ?_⟩
    · rw [upd_same, putK_new v5 new]
    · have ts : Tsm H5 (upd H5 D (.dK (putK kvs (.inr z) v5))) := Tsm.upd fun xs q => by rw [e45 _ _ hx3] at q; cases q
      rw [take_snoc hg, List.map_append]
      refine Dk.snoc (hts (z, r) hm2 _ _ v5 ts hd5) (dk_ts (fun p hp v q => ?_) (hd3.go e45))
      obtain ⟨p', hp', rfl⟩ := List.mem_map.mp hp
      exact hts p' (List.mem_of_mem_take hp') _ _ v ts q
  · obtain ⟨eS, kvs, hx, hd⟩ := p
    rw [kl, List.take_length] at hd
    refine ⟨eS _ _ upd_same, k D kvs _ hDH (same_unlock hka eS) (by rw [upd_ne Dka]; exact hx) (dk_ts (fun p hp v q => ?_) hd)⟩
    obtain ⟨p', hp', rfl⟩ := List.mem_map.mp hp
    exact hts p' hp' _ _ v (Tsm.upd fun xs z => by rw [eS _ _ upd_same] at z; cases z) q
section
variable {P : Program} {w : World} {K : PySem.W.Frag} {mg : Str → Option Value} {base : Heap} {ad : Ad}
/-! ### tidied -/
def spTidied (C B : Addr) : Sp := fun vs H Q E => ∃ v : V, vs = [v] ∧ ((∃ (x : Addr) (n : Nat) (ks : Knots) (y : Str), v = .ref x ∧ NetS H C x ks y ∧ SK n ks ∧ y ∈ ab.take n ∧ ∀ x' H', H x' = none → Same H H' → NetNew H H' C x' (kd (tks ks)) (id_ (is0 y)) ["o", "p"] → Q (.ref x') H') ∨ (NotNet H v ∧ Raised B .non H E))
abbrev nmTidied : List Str := ["net", "knots", "knot", "front", "turn"]
theorem scTidied : FnScope nmTidied ["net"] (defScope sTidied) := ⟨rfl, rfl, rfl, by decide +kernel, rfl, by decide +kernel, by decide +kernel⟩
theorem ok_tidied (T : Tb P K mg ad) : FnOk P w K mg base (L2.CX P w) 8 ad.tidied ad.dTidied ["net"] (spTidied ad.cNet ad.cBad) := by
  have GC : FnOk P w K mg base (L2.CX P w) 2 ad.chNet ad.dChNet ["net"] (spChNet ad.cNet ad.cBad) := ok_chNet T
  have bC := T.tc.tx.fChNet.binds (ps := ["net"]) fun _ _ _ _ _ _ us hl => match us, hl with | [_], _ => rfl
  have GS : FnOk P w K mg base CX0 3 ad.short ad.dShort ["front", "period"] spShort := ok_short T.tc.tx
  have bS := T.tc.tx.fShort.binds (ps := ["front", "period"]) fun _ _ _ _ _ _ us hl => match us, hl with | [_, _], _ => rfl
  have GN : FnOk P w K mg base CX0 6 ad.init ad.dInit ["self", "knots", "inlets", "outlets"] (spInit ad.cNet) := ok_init T.tc.tx
  have bN := T.tc.tx.fInit.binds (ps := ["self", "knots", "inlets", "outlets"]) fun _ _ _ _ _ _ us hl => match us, hl with | [_, _, _, _], _ => rfl
  refine T.tc.tx.fTidied.okX scTidied (fun vs H Q E h => ?_) (fun cdv A outer s H vs Q E hr h => ?_)
  · obtain ⟨v, rfl, _⟩ := h
    rfl
  · obtain ⟨v, rfl, h⟩ := h
    have hr2 : Room 2 _ := hr.mono (by decide)
    have hr3 : Room 3 _ := hr.mono (by decide)
    refine ⟨_, pss_cons (ps_expr (pe_callS GC hr2 (by rfl) T.tc.tx.gChNet T.tc.tx.fChNet.kp bC (fun σ => passAt (takes_of rfl rfl rfl rfl) σ) (by exact (pa_cons (pv 0) pa_nil))))
      (pss_cons (ps_lock (ps_setDc (i := 1) (own := [("knot", 2), ("front", 3), ("turn", 4)]) (g := gTup K 2 (gCons (gName 2) (gCons (gTup K 2 (gCons (gName 3) (gCons (gName 4) gNil))) gNil))) (tt := tYes) rfl scTidied.nd rfl rfl (swD_true rfl rfl rfl (by decide +kernel)) (pi_items (pe_fld (pv 0) rfl)) (blkOk_by (N := nmTidied) (sc := defScope sTidied) (by decide +kernel))
          (fun _ _ _ _ _ => pg_tup (by rfl) (pgs_cons (pg_name (i := 2) scTidied.nd rfl (Or.inl rfl)) (pgs_cons (pg_tup (by rfl) (pgs_cons (pg_name (i := 3) scTidied.nd rfl (Or.inl rfl)) (pgs_cons (pg_name (i := 4) scTidied.nd rfl (Or.inl rfl)) pgs_nil))) pgs_nil)))
          (fun _ _ _ _ _ => pts_nil) (fun _ _ _ _ _ => pv 2) (fun _ _ _ _ _ => pe_call GS hr3 (by rfl) T.tc.tx.gShort T.tc.tx.fShort.kp bS .nil pass0 (pa_cons (pv 3) (pa_cons (pv 4) pa_nil)))))
      (pss_one (ps_ret (pe_make T.tc.tx.mkN GN hr (by rfl) T.tc.tx.gNet bN .nil pass0 (pa_cons (pv 1) (pa_cons (pe_fld (pv 0) rfl) (pa_cons (pe_fld (pv 0) rfl) pa_nil))))))), ?_⟩
    rcases h with ⟨x, n, ks, y, rfl, nx, sk, hy, k⟩ | ⟨hn, r⟩
    · obtain ⟨dx, ka, ia, oa, kv, iv, h1, h2, h3, h4, h5, h6⟩ := nx.ex
      refine q_dropS (ea_cons (ev_tv rfl) fun _ _ => ea_nil) fun H1 e1 => ⟨_, rfl, .inl ⟨x, dx, _, rfl, e1 _ _ h1, fun H2 e2 => ?_⟩⟩
      have e12 := e1.trans e2
      replace h1 := e12 _ _ h1
      replace h2 := e12 _ _ h2
      replace h3 := h3.go e12
      replace h4 := e12 _ _ h4
      replace h5 := h5.go e12
      replace h6 := e12 _ _ h6
      clear e1 e2
      have xka : x ≠ ka := ne_of h1 h2 (by intro z; cases z)
      have rk : ∀ p ∈ ks, RowOk p.2.1 ∧ RowOk p.2.2 ∧ 1 ≤ p.2.2.length ∧ p.2.2.length ≤ 60 ∧ p.2.1.length ≤ 60 := fun p hp => by
        have q := sk.g.rows p hp
        exact ⟨q.rowOk.1, q.rowOk.2, q.l2, by have := q.l3; omega, by have := q.l1; omega⟩
      have l4 := sk.g.le
      have lk := sk.len
      refine q_dcItems (K := K) (fun p => dRows (tr p.2)) h2 h3 (he := fun od H' e => ev_fld (K := K) (ev_tv rfl) (e _ _ (by rw [upd_ne xka]; exact h1)) T.tc.tx.cl T.tc.tx.nKnots kn_f) (hts := fun p hp H H' v e hd => hd.rows_ts e) (nd := sk.nd) (few := by omega) (hw := fun _ _ _ => rfl)
        (hs := fun z r vf vt H' hm _ hf ht => ⟨ev_tv rfl, fun H2 e2 Q2 q2 => ⟨_, rfl, _, rfl, vf, vt, r.1, r.2, rfl, hf.go e2, ht.go e2, (rk _ hm).1, (rk _ hm).2.1, (rk _ hm).2.2.1, (rk _ hm).2.2.2.1, (rk _ hm).2.2.2.2, fun v H3 e3 hd => q2 v H3 e3 hd⟩⟩) (k := fun D kvs H3 hD e3 hx hd => ?_)
      have et : (ks.map fun p => (p.1, dRows (tr p.2))) = kd (tks ks) := by
        unfold kd tks
        rw [List.map_map]
        rfl
      rw [et] at hd
      refine er_netS (sk.tidy) hy (.inl rfl) (fun Q2 q2 => ?_) _ fun x' H' h0 e' nn => k x' H' (e12.free (e3.free h0)) (e12.trans (e3.trans e')) (nn.back (e12.trans e3))
      refine ⟨_, rfl, ?_⟩
      refine ev_fld (K := K) (ta := tVar 0) (ev_tv rfl) (e3 _ _ h1) T.tc.tx.cl T.tc.tx.nInlets in_f _ fun H4 e4 => ev_fld (K := K) (ta := tVar 0) (ev_tv rfl) (e4 _ _ (e3 _ _ h1)) T.tc.tx.cl T.tc.tx.nOutlets out_f _ fun H5 e5 => ?_
      have e45 := e4.trans e5
      exact q2 D ia oa kvs iv H5 e45 (ne_of_none h4 hD).symm (e45 _ _ hx) (hd.go e45) ((e3.trans e45) _ _ h4) (h5.go (e3.trans e45)) (.inr ((e3.trans e45) _ _ h6))
    · refine q_dropS (ea_cons (ev_tv rfl) fun _ _ => ea_nil) fun H1 e1 => ?_
      exact ⟨_, rfl, .inr ⟨hn.go e1, r.go e1⟩⟩
end
end Bc

namespace Bc
open PySem L2 PyProof.Rows StX
def TL (H H' : Hp) : Prop := (∀ c xs, H c = some (.tup xs) → H' c = some (.tup xs)) ∧ ∀ c xs, H c = some (.lst xs) → H' c = some (.lst xs)
theorem TL.same {H H' : Hp} (e : Same H H') : TL H H' := ⟨fun c xs h => e _ _ h, fun c xs h => e _ _ h⟩
theorem TL.trans {H H' H2 : Hp} (e : TL H H') (f : TL H' H2) : TL H H2 := ⟨fun c xs h => f.1 _ _ (e.1 _ _ h), fun c xs h => f.2 _ _ (e.2 _ _ h)⟩
theorem TL.upd {H : Hp} {b : Addr} {o : HO} (h1 : ∀ xs, H b ≠ some (.tup xs)) (h2 : ∀ xs, H b ≠ some (.lst xs)) : TL H (L2.upd H b o) :=
  ⟨fun c xs h => by rw [upd_ne (fun e => h1 xs (by rw [← e]; exact h))]; exact h, fun c xs h => by rw [upd_ne (fun e => h2 xs (by rw [← e]; exact h))]; exact h⟩
mutual
theorem Dt.tl {H H' : Hp} (e : TL H H') : ∀ (d : PyData) (v : V), Dt H v d → Dt H' v d
  | .none, _, .non => .non
  | .bool _, _, .bl b => .bl b
  | .int _, _, .int i => .int i
  | .str _, _, .str x => .str x
  | .list ds, _, .lst h k => .lst (e.2 _ _ h) (Dts.tl e ds _ k)
  | .tuple ds, _, .tup h k => .tup (e.1 _ _ h) (Dts.tl e ds _ k)
theorem Dts.tl {H H' : Hp} (e : TL H H') : ∀ (ds : List PyData) (vs : List V), Dts H vs ds → Dts H' vs ds
  | [], _, .nil => .nil
  | d :: ds, _, .cons h k => .cons (Dt.tl e d _ h) (Dts.tl e ds _ k)
end
/-- the answer of is_tidy -/
def tB (ks : Knots) (y : Str) : Bool := eqNet (kd (tks ks)) (id_ (is0 y)) ["o", "p"] (kd ks) (id_ (is0 y)) ["o", "p"]
theorem SK.shp {n : Nat} {ks : Knots} {y : Str} (s : SK n ks) (hy : y ∈ ab.take n) : Shp (kd ks) (id_ (is0 y)) ["o", "p"] := shp_ok s.g (gi_is0 s.g.pos hy) go_op
section
variable {K : PySem.W.Frag} {σ : L2.St} {H : Hp} {ta tb te : TE} {t : TA} {C : Addr}
theorem ev_pb {E : XK} {x : Addr} {z : Str} {p m : Nat} {ks : Knots} {is : List (Str × PyData)} {os : List Str} {r : Rows} (ha : Ev ta σ H (.ref x)) (hb : ∀ H', Same H H' → EvA t σ H' [.str z, .int (p : Nat), .int (m : Nat)]) (n : NetAt H C x (kd ks) is os) (nd : (kn ks).Nodup) (hz : (z, r) ∈ ks) (t1 : 1 ≤ r.2.length) :
    Ev (tMeth C "place_behind" (spPB C) [] E ta t) σ H (.int (Tidy.st r.1.length r.2.length (p + m) : Nat)) := fun Q q => ha _ fun H1 e1 => by
  obtain ⟨dx, ka, ia, oa, kv, iv, h1, _⟩ := n.ex
  exact ⟨x, dx, _, rfl, e1 _ _ h1, no_f (by decide +kernel) (by decide +kernel) (by decide +kernel), hb H1 e1 _ fun H2 e2 => ⟨x, z, p, m, ks, is, os, r, rfl, n.go (e1.trans e2), nd, hz, t1, fun H3 e3 => q H3 (e1.trans (e2.trans e3))⟩⟩
end
section
variable {P : Program} {w : World} {K : PySem.W.Frag} {mg : Str → Option Value} {base : Heap} {ad : Ad}
/-! ### is_tidy -/
def spIsTidy (C B : Addr) : Sp := fun vs H Q E => ∃ v : V, vs = [v] ∧ ((∃ (x : Addr) (n : Nat) (ks : Knots) (y : Str), v = .ref x ∧ NetS H C x ks y ∧ SK n ks ∧ y ∈ ab.take n ∧ ∀ H', Same H H' → Q (.bl (tB ks y)) H') ∨ (NotNet H v ∧ Raised B .non H E))
theorem scIsTidy : FnScope ["net"] ["net"] (defScope sIsTidy) := ⟨rfl, rfl, rfl, by decide +kernel, rfl, by decide +kernel, by decide +kernel⟩
theorem ok_isTidy (T : Tb P K mg ad) : FnOk P w K mg base (L2.CX P w) 9 ad.isTidy ad.dIsTidy ["net"] (spIsTidy ad.cNet ad.cBad) := by
  have GT : FnOk P w K mg base (L2.CX P w) 8 ad.tidied ad.dTidied ["net"] (spTidied ad.cNet ad.cBad) := ok_tidied T
  have bT := T.tc.tx.fTidied.binds (ps := ["net"]) fun _ _ _ _ _ _ us hl => match us, hl with | [_], _ => rfl
  have GE : FnOk P w K mg base CX0 3 ad.eq ad.dEq ["self", "other"] (spEq ad.cNet) := ok_eq T.tc
  have bE := T.tc.tx.fEq.binds (ps := ["self", "other"]) fun _ _ _ _ _ _ us hl => match us, hl with | [_, _], _ => rfl
  refine T.tc.tx.fIsTidy.okX scIsTidy (fun vs H Q E h => ?_) (fun cdv A outer s H vs Q E hr h => ?_)
  · obtain ⟨v, rfl, _⟩ := h
    rfl
  · obtain ⟨v, rfl, h⟩ := h
    have hr3 : Room 3 _ := hr.mono (by decide)
    refine ⟨_, pss_one (ps_ret (pe_cmpR (op_eqO GE bE pass0 hr3 T.tc.oEq) (pe_callS GT hr (by rfl) T.tc.tx.gTidied T.tc.tx.fTidied.kp bT (fun σ => passAt (takes_of rfl rfl rfl rfl) σ) (by exact (pa_cons (pv 0) pa_nil))) (pv 0) (nomark _))), ?_⟩
    rcases h with ⟨x, n, ks, y, rfl, nx, sk, hy, k⟩ | ⟨hn, r⟩
    · refine s_ret (er_eqN (C := ad.cNet) (k1 := kd (tks ks)) (i1 := id_ (is0 y)) (o1 := ["o", "p"]) (fun Q1 q1 => ?_) (fun _ _ => ev_tv rfl) nx (sk.tidy.shp hy) (sk.shp hy)) fun H' e => k H' e
      exact ⟨_, rfl, _, rfl, .inl ⟨x, n, ks, y, rfl, nx, sk, hy, fun x' H' h0 e nn => q1 x' H' e nn.net⟩⟩
    · exact ⟨_, rfl, _, rfl, .inr ⟨hn, r⟩⟩
/-! ### tidied_standing -/
def spTidSt (C B S : Addr) : Sp := fun vs H Q E => ∃ v u : V, vs = [v, u] ∧ ((∃ (x : Addr) (n : Nat) (ks : Knots) (y : Str), v = .ref x ∧ NetS H C x ks y ∧ SK n ks ∧ y ∈ ab.take n ∧
    ((StV H ks u false ∧ RaisedS S H E) ∨ (∃ (a : Addr) (g : Str → Nat), u = .ref a ∧ H a = some (.dK (stD ks fun z => .int (g z : Nat))) ∧ (∀ p ∈ ks, g p.1 < p.2.1.length + p.2.2.length) ∧
      ∀ d H', H d = none → Same H H' → H' d = some (.dK (ks.map fun p => (.inr p.1, .int (Tidy.st (tr p.2).1.length (tr p.2).2.length (g p.1) : Nat)))) → Q (.ref d) H'))) ∨ (NotNet H v ∧ Raised B .non H E))
abbrev nmTidSt : List Str := ["net", "standing", "tidy", "knot"]
theorem scTidSt : FnScope nmTidSt ["net", "standing"] (defScope sTidSt) := ⟨rfl, rfl, rfl, by decide +kernel, rfl, by decide +kernel, by decide +kernel⟩
theorem ok_tidSt (T : Tb P K mg ad) : FnOk P w K mg base (L2.CX P w) 9 ad.tidSt ad.dTidSt ["net", "standing"] (spTidSt ad.cNet ad.cBad ad.cStd) := by
  have GT : FnOk P w K mg base (L2.CX P w) 8 ad.tidied ad.dTidied ["net"] (spTidied ad.cNet ad.cBad) := ok_tidied T
  have bT := T.tc.tx.fTidied.binds (ps := ["net"]) fun _ _ _ _ _ _ us hl => match us, hl with | [_], _ => rfl
  have GC : FnOk P w K mg base (L2.CX P w) 5 ad.chSt ad.dChSt ["net", "standing"] (spChSt ad.cNet ad.cStd) := ok_chSt T
  have bC := T.tc.tx.fChSt.binds (ps := ["net", "standing"]) fun _ _ _ _ _ _ us hl => match us, hl with | [_, _], _ => rfl
  have GP : FnOk P w K mg base CX0 2 ad.pb ad.dPB ["self", "name", "place", "many"] (spPB ad.cNet) := ok_pb T.tc
  have bP := T.tc.tx.fPB.binds (ps := ["self", "name", "place", "many"]) fun _ _ _ _ _ _ us hl => match us, hl with | [_, _, _, _], _ => rfl
  refine T.tc.tx.fTidSt.okX scTidSt (fun vs H Q E h => ?_) (fun cdv A outer s H vs Q E hr h => ?_)
  · obtain ⟨v, u, rfl, _⟩ := h
    rfl
  · obtain ⟨v, u, rfl, h⟩ := h
    have hr2 : Room 2 _ := hr.mono (by decide)
    have hr5 : Room 5 _ := hr.mono (by decide)
    refine ⟨_, pss_cons (ps_set (i := 2) scTidSt.nd rfl (.inr rfl) (pe_callS GT hr (by rfl) T.tc.tx.gTidied T.tc.tx.fTidied.kp bT (fun σ => passAt (takes_of rfl rfl rfl rfl) σ) (by exact (pa_cons (pv 0) pa_nil))))
      (pss_cons (ps_expr (pe_callS GC hr5 (by rfl) T.tc.tx.gChSt T.tc.tx.fChSt.kp bC (fun σ => passAt (takes_of rfl rfl rfl rfl) σ) (by exact (pa_cons (pv 0) (pa_cons (pv 1) pa_nil)))))
      (pss_one (ps_ret (pe_lock (pe_dc (own := [("knot", 3)]) (g := gName 3) (tt := tYes) rfl scTidSt.nd (pi_keys (pe_fld (pv 0) rfl)) (blkOk_by (N := nmTidSt) (sc := defScope sTidSt) (by decide +kernel))
        (fun _ _ _ _ _ => pg_name (i := 3) scTidSt.nd rfl (Or.inl rfl)) (fun _ _ _ _ _ => pts_nil) (fun _ _ _ _ _ => pv 3) (fun _ _ _ _ _ => pe_meth (pv 2) T.tc.tx.cl T.tc.tx.mPB GP hr2 bP .nil pass0 (pa_cons (pv 3) (pa_cons pe_int (pa_cons (pe_dget (hu_of hr) (pv 1) (pv 3) (fun _ _ => rfl)) pa_nil))))))))), ?_⟩
    rcases h with ⟨x, n, ks, y, rfl, nx, sk, hy, h⟩ | ⟨hn, r⟩
    · refine ⟨_, rfl, _, rfl, .inl ⟨x, n, ks, y, rfl, nx, sk, hy, fun x' H1 hx' e1 nn => ?_⟩⟩
      have l4 := sk.g.le
      have l1 := sk.g.pos
      have lk := sk.len
      rcases h with ⟨hst, r⟩ | ⟨a, g, rfl, ha, hg, k⟩
      · exact q_dropS (ea_cons (ev_tv rfl) fun _ _ => ea_cons (ev_tv rfl) fun _ _ => ea_nil) fun H2 e2 => ⟨x, u, ks, _, _, false, rfl, nx.go (e1.trans e2), sk.nd, by omega, by omega, hst.go (e1.trans e2), (fun z => nomatch z), fun _ => r.go (e1.trans e2)⟩
      · have hall : (ks.all fun p => okV ((fun z => V.int (g z : Nat)) p.1) (p.2.1.length + p.2.2.length)) = true := List.all_eq_true.mpr fun p hp => by
          have q := hg p hp
          show (decide (0 ≤ ((g p.1 : Nat) : Int)) && decide (((g p.1 : Nat) : Int) < ((p.2.1.length + p.2.2.length : Nat) : Int))) = true
          rw [decide_eq_true (by omega), decide_eq_true (by omega)]
          rfl
        have stv : StV H ks (.ref a) true := .inr (.inr ⟨a, fun z => .int (g z : Nat), rfl, ha, fun z _ => .inl ⟨_, rfl⟩, hall.symm⟩)
        refine q_dropS (ea_cons (ev_tv rfl) fun _ _ => ea_cons (ev_tv rfl) fun _ _ => ea_nil) fun H2 e2 => ⟨x, .ref a, ks, _, _, true, rfl, nx.go (e1.trans e2), sk.nd, by omega, by omega, stv.go (e1.trans e2), fun _ H3 e3 => ?_, fun z => nomatch z⟩
        have e13 := e1.trans (e2.trans e3)
        have n3 := nx.go e13
        replace ha := e13 _ _ ha
        obtain ⟨dx, ka, ia, oa, kv, iv, h1, h2, h3, h4, h5, h6⟩ := n3.ex
        obtain ⟨dx0, ka0, _, _, kv0, _, g1, g2, _, _, _, _⟩ := nx.ex
        have eka : ka0 = ka := by
          have q := e13 _ _ g1
          rw [h1] at q
          injection q with q
          injection q with _ _ q
          injection q with q _
          injection q with _ q
          injection q with q
          exact q.symm
        subst eka
        have xka : x ≠ ka0 := ne_of h1 h2 (by intro z; cases z)
        have aka : a ≠ ka0 := fun e => by
          rw [e, h2] at ha
          injection ha with ha
          injection ha with ha
          rw [ha] at h3
          cases ks with
          | nil => simp at lk; omega
          | cons p r =>
            obtain ⟨z, rr⟩ := p
            cases h3 with
            | cons hd _ =>
              obtain ⟨_, _, _, e2, _⟩ := dt_rows hd
              cases e2
        have kvl : kv.length = ks.length := by rw [h3.length]; exact List.length_map _
        refine ⟨ka0, _, h2, True.intro, fun od => ?_⟩
        have nt := (nn.go (e2.trans e3)).mut (o := HO.frz od (.dK kv)) g2 (.inl ⟨_, h2⟩)
        have ntd := nt.net
        refine ⟨_, rfl, x, ad.cNet, dx, _, _, rfl, (by rw [upd_ne xka]; exact h1), T.tc.tx.cl, T.tc.tx.nKnots, kn_f, ?_⟩
        refine ⟨ka0, od, rfl, .inl ⟨kv, upd_same, fun D hD => ?_⟩⟩
        have at_ : ∀ i, i < kv.length → ∃ z r v, ks[i]? = some (z, r) ∧ kv[i]? = some ((.inr z : Key), v) := fun i hi => by
          obtain ⟨z, r, q1, q2, _⟩ := dk_at h3 (List.getElem?_eq_getElem hi)
          refine ⟨z, r, kv[i].2, q1, ?_⟩
          rw [List.getElem?_eq_getElem hi, ← q2]
          rfl
        have inj : ∀ i i', i < kv.length → i' < kv.length → ((ks[i]?.map fun p => (Sum.inr p.1 : Key)).getD (.inl 0)) = ((ks[i']?.map fun p => (Sum.inr p.1 : Key)).getD (.inl 0)) → i = i' := fun i i' hi hi' e => by
          obtain ⟨z, r, v, q1, _⟩ := at_ i hi
          obtain ⟨z', r', v', q2, _⟩ := at_ i' hi'
          rw [q1, q2] at e
          have ez : z = z' := Sum.inr.inj (show (Sum.inr z : Key) = Sum.inr z' from e)
          subst ez
          have k1 : (kn ks)[i]? = some z := by unfold kn; rw [List.getElem?_map, q1]; rfl
          have k2 : (kn ks)[i']? = some z := by unfold kn; rw [List.getElem?_map, q2]; rfl
          exact nd_ix sk.nd k1 k2
        have DL : Dk _ kv _ := h3
        refine dc_vals (walk_keys (d := ka0) (o := od) (kvs := kv)) (fun i => ((ks[i]?.map fun p => (Sum.inr p.1 : Key)).getD (.inl 0))) (fun i => ((ks[i]?.map fun p => V.int (Tidy.st (tr p.2).1.length (tr p.2).2.length (g p.1) : Nat)).getD .non)) hD (by omega) (fun H2 e2 => e2 _ _ upd_same) (fun _ => rfl) inj (fun i y H4 H5 hi e4 hy => ?_) (fun H4 e4 hl => ?_)
        · obtain ⟨rfl, kk, v, hk, rfl⟩ := hy
          obtain ⟨z, r, v', q1, q2⟩ := at_ i hi
          rw [q2] at hk
          injection hk with hk
          injection hk with hk1 hk2
          subst hk1
          rw [q1]
          have hzr : (z, r) ∈ ks := List.mem_of_getElem? q1
          have hzr2 := tks_mem hzr
          have rp : 1 ≤ (tr r).2.length := (sk.tidy.g.rows _ hzr2).l2
          have ha4 : ∀ H', Same H5 H' → H' a = some (.dK (stD ks fun z => .int (g z : Nat))) := fun H' e => e _ _ (e4 _ _ (by rw [upd_ne aka]; exact ha))
          refine ⟨Same.refl _, ev_tv rfl, fun H6 e6 => ?_⟩
          have zz := ev_pb (E := E0) (C := ad.cNet) (ta := tVar 2) (t := tCons (tVar 3) (tCons (tC (.int 0)) (tCons (tDGet (tVar 1) (tVar 3)) tNil))) (σ := [some (.ref x), some (.ref a), some (.ref x'), some (.str z)]) (p := 0) (m := g z) (z := z) (r := tr r) (ks := tks ks) (ev_tv rfl)
            (fun H7 e7 => ea_cons (ev_tv rfl) fun _ e8 => ea_cons ev_tc fun _ e9 => ea_cons (ev_dget (k := .inr z) (ev_tv rfl) (fun _ _ => ev_tv rfl) (ha4 _ (e6.trans (e7.trans (e8.trans e9)))) (stD_at (List.mem_map.mpr ⟨_, hzr, rfl⟩))) fun _ _ => ea_nil) (ntd.go (e4.trans e6)) sk.tidy.nd hzr2 rp
          rw [Nat.zero_add] at zz
          exact zz
        · have Dka : D ≠ ka0 := fun z => by
            rw [z, upd_same] at hD
            cases hD
          have HD : H3 D = none := by
            rw [upd_ne Dka] at hD
            exact hD
          refine ⟨e4 _ _ upd_same, k D _ (e13.free HD) (e13.trans (same_unlock h2 e4)) ?_⟩
          rw [upd_ne Dka, hl]
          congr 2
          refine List.ext_getElem? fun i => ?_; rw [List.getElem?_map, List.getElem?_map]
          by_cases hi : i < kv.length
          · obtain ⟨z, r, v, q1, _⟩ := at_ i hi
            rw [List.getElem?_range hi, q1]
            show some (_, _) = _
            rw [q1]
            rfl
          · rw [List.getElem?_eq_none_iff.mpr (by rw [List.length_range]; omega), List.getElem?_eq_none_iff.mpr (by omega)]
            rfl
    · exact ⟨_, rfl, _, rfl, .inr ⟨hn, r⟩⟩
end
end Bc

namespace Bc
open PySem L2 PyProof.Rows StX
theorem same_updB {Hb H : Hp} {a : Addr} {o : HO} (e : Same Hb H) : Same (upd Hb a o) (upd H a o) := fun c u h => by
  by_cases hc : c = a
  · subst hc
    rw [upd_same] at h ⊢
    exact h
  · rw [upd_ne hc] at h ⊢
    exact e _ _ h
section
variable {K : PySem.W.Frag} {σ : L2.St} {H Hb : Hp} {ta tb te tk : TE} {D : Ends} {u : TS}
/-- for z, (f, t) in d.items(), told from an earlier heap -/
theorem q_itemsB {tb : TS} {ka : Addr} {kv : List (Key × V)} {ks : Knots} {i j l n m : Nat} (hka : Hb ka = some (.dK kv)) (hk : Dk Hb kv (kd ks)) (hS0 : Same Hb H) (hn : n = 2 := by rfl) (hm : m = 2 := by rfl)
    (k : ∀ od, (∀ H', Same (upd H ka (.frz od (.dK kv))) H' → Ev te σ H' (.ref ka)) ∧ ∃ Pv : Nat → L2.St → Hp → Prop, (∀ H', Same (upd H ka (.frz od (.dK kv))) H' → Pv 0 σ H') ∧ (∀ i σ' H', Pv i σ' H' → Same (upd Hb ka (.frz od (.dK kv))) H') ∧ (∀ i σ' H' H'', Same H' H'' → Pv i σ' H' → Pv i σ' H'') ∧
      (∀ g z r vf vt σ' H' bk ct, ks[g]? = some (z, r) → Pv g σ' H' → Dt H' vf (dRow r.1) → Dt H' vt (dRow r.2) → tb ⟨Pv (g + 1), fun v H' => H' ka = some (.frz od (.dK kv)) ∧ D.rt v (upd H' ka (.dK kv)), bk, ct⟩ (((σ'.set i (some (.str z))).set j (some vf)).set l (some vt)) H') ∧
      (∀ σ' H', Pv ks.length σ' H' → u D σ' (upd H' ka (.dK kv)))) :
    tSeq (tLock (tFor (iItems te) (gTup K n (gCons (gName i) (gCons (gTup K m (gCons (gName j) (gCons (gName l) gNil))) gNil))) tb)) u D σ H := by
  refine ⟨ka, _, hS0 _ _ hka, True.intro, fun od => ?_⟩
  obtain ⟨he, Pv, h0, hS, hmo, hs, hd⟩ := k od
  refine he _ (Same.refl _) _ fun H1 e1 => ⟨ka, od, kv, rfl, e1 _ _ upd_same, ?_⟩
  have kl : kv.length = ks.length := by rw [hk.length]; exact List.length_map _
  refine for_it (walk_items (d := ka) (o := od) (kvs := kv)) Pv (h0 H1 e1) (fun i σ' H' _ p => hS i σ' H' p _ _ upd_same) (fun g x σ' H2 H3 hi p y => ?_) (fun σ' H' p => ?_)
  · obtain ⟨t, kx, v, rfl, ht, rfl, hu, hv⟩ := y
    obtain ⟨⟨pk, pval⟩, hp, rfl⟩ := Option.map_eq_some_iff.mp hu
    replace hv : kv[g]?.map Prod.snd = some v := hv
    rw [hp] at hv
    obtain rfl : pval = v := Option.some.inj hv
    obtain ⟨z, r, hg, rfl, hdt⟩ := dk_at hk hp
    have eS := (hS g σ' H2 p).trans (same_upd (o := HO.tup [kV (.inr z), pval]) ht)
    have d2 : Dt (upd H2 t (.tup [kV (.inr z), pval])) pval (dRows r) := hdt.rows_ts ((lock_ts hka).trans (Tsm.same eS))
    obtain ⟨a, vf, vt, rfl, ha, hf, htt⟩ := dt_rows d2
    exact ⟨t, _, rfl, SqT.of upd_same, hn.symm, _, _, rfl, _, _, rfl, a, [vf, vt], rfl, SqT.of ha, hm.symm, _, _, rfl, _, _, rfl, rfl, rfl, hs g z r vf vt σ' _ _ _ hg (hmo g σ' H2 _ (same_upd ht) p) hf htt⟩
  · rw [kl] at p
    exact ⟨hS _ _ _ p _ _ upd_same, hd σ' H' p⟩
end
theorem valV_rangeAt {f : Nat → Key} {g : Nat → V} {n j : Nat} (hj : j < n) (inj : ∀ i, i < n → f i = f j → i = j) : valV ((List.range n).map fun i => (f i, g i)) (f j) = some (g j) := by
  induction n with
  | zero => omega
  | succ n ih =>
    rw [List.range_succ, List.map_append]
    by_cases c : j < n
    · have := ih c fun i hi => inj i (by omega)
      unfold valV at this ⊢
      rw [List.find?_append]
      cases hq : List.find? (fun q => decide (q.1 = f j)) ((List.range n).map fun i => (f i, g i)) with
      | none => simp [hq] at this
      | some p => simp [hq] at this ⊢; exact this
    · have e : j = n := by omega
      subst e
      have h0 := valV_range (f := f) (g := g) (n := j) (k := f j) fun i hi e => by have := inj i (by omega) e; omega
      unfold valV at h0 ⊢
      rw [List.find?_append]
      cases hq : List.find? (fun q => decide (q.1 = f j)) ((List.range j).map fun i => (f i, g i)) with
      | none => simp
      | some p => simp [hq] at h0
/-! ### places alike -/
/-- the places below i from which it goes on as from j, in rows tidied -/
def grp (t : Nat → Nat) (i j : Nat) : List Nat := (List.range i).filter fun p => decide (t p = j)
theorem grp_succ (t : Nat → Nat) (i j : Nat) : grp t (i + 1) j = if t i = j then grp t i j ++ [i] else grp t i j := by
  unfold grp
  rw [List.range_succ, List.filter_append]
  by_cases h : t i = j
  · rw [if_pos h, List.filter_cons_of_pos (by simpa using h)]
    rfl
  · rw [if_neg h, List.filter_cons_of_neg (by simpa using h)]
    simp
theorem grp_nil {t : Nat → Nat} {i j : Nat} (h : ∀ p, p < i → t p ≠ j) : grp t i j = [] := by
  unfold grp
  rw [List.filter_eq_nil_iff]
  intro p hp
  simpa using h p (List.mem_range.mp hp)
theorem grp_len (t : Nat → Nat) (i j : Nat) : (grp t i j).length ≤ i := by
  unfold grp
  have := List.length_filter_le (fun p => decide (t p = j)) (List.range i)
  rw [List.length_range] at this
  exact this
def tpl (r : Rows) (p : Nat) : Nat := Tidy.st (tr r).1.length (tr r).2.length p
def many (r : Rows) : Nat := (tr r).1.length + (tr r).2.length
def alk (r : Rows) : PyData := .list ((List.range (many r)).map fun j => .list ((grp (tpl r) (r.1.length + r.2.length) j).map fun p => .int (p : Nat)))
theorem many_le {r : Rows} (h : 0 < r.2.length) : many r ≤ r.1.length + r.2.length := by
  obtain ⟨_, _, a3, a4⟩ := Tidy.shr_is (f := r.1) h
  exact Nat.add_le_add a3 a4
theorem many_tr {r : Rows} (h : 0 < r.2.length) : 0 < (tr r).2.length := (Tidy.shr_is (f := r.1) h).1.pos
theorem tpl_lt {r : Rows} (h : 0 < r.2.length) (p : Nat) : tpl r p < many r := Tidy.st_lt (many_tr h)
theorem tpl_id {r : Rows} {p : Nat} (hp : p < many r) : tpl r p = p := Tidy.st_id hp
theorem tpl_lt2 {r : Rows} (h : 0 < r.2.length) (p : Nat) : tpl r p ≤ p := by
  unfold tpl Tidy.st
  split
  · exact Nat.le_refl _
  · have := Nat.mod_le (p - (tr r).1.length) (tr r).2.length
    omega
theorem dts_ints {H : Hp} : ∀ l : List Nat, Dts H (l.map fun p => V.int (p : Nat)) (l.map fun p => PyData.int (p : Nat))
  | [] => .nil
  | p :: l => .cons (.int _) (dts_ints l)
theorem dts_lists {H : Hp} (L : Nat → Addr) (G : Nat → List Nat) : ∀ l : List Nat, (∀ j ∈ l, H (L j) = some (.lst ((G j).map fun p => V.int (p : Nat)))) → Dts H (l.map fun j => V.ref (L j)) (l.map fun j => PyData.list ((G j).map fun p => .int (p : Nat)))
  | [], _ => .nil
  | j :: l, h => .cons (.lst (h j List.mem_cons_self) (dts_ints _)) (dts_lists L G l fun i hi => h i (List.mem_cons_of_mem _ hi))
section
variable {P : Program} {w : World} {K : PySem.W.Frag} {mg : Str → Option Value} {base : Heap} {ad : Ad}
def spAlike (C B : Addr) : Sp := fun vs H Q E => ∃ v : V, vs = [v] ∧ ((∃ (x : Addr) (n : Nat) (ks : Knots) (y : Str), v = .ref x ∧ NetS H C x ks y ∧ SK n ks ∧ y ∈ ab.take n ∧
    ∀ d kvs H', H d = none → Same H H' → H' d = some (.dK kvs) → Dk H' kvs (ks.map fun p => (p.1, alk p.2)) → Q (.ref d) H') ∨ (NotNet H v ∧ Raised B .non H E))
abbrev nmAlike : List Str := ["net", "tidy", "found", "knot", "front", "turn", "alike", "place"]
theorem scAlike : FnScope nmAlike ["net"] (defScope sAlike) := ⟨rfl, rfl, rfl, by decide +kernel, rfl, by decide +kernel, by decide +kernel⟩
/-- the state of the inner loop -/
def InvA (H0 : Hp) (A : Addr) (t : Nat → Nat) (m i : Nat) (H' : Hp) : Prop := Same H0 H' ∧ ∃ L : Nat → Addr, (∀ j, j < min i m → H0 (L j) = none ∧ L j ≠ A ∧ H' (L j) = some (.lst ((grp t i j).map fun p => V.int (p : Nat)))) ∧ (∀ j j', j < min i m → j' < min i m → L j = L j' → j = j') ∧
  H' A = some (.dK ((List.range (min i m)).map fun j => ((.inl (j : Nat) : Key), V.ref (L j))))
theorem InvA.go {H0 H H' : Hp} {A : Addr} {t : Nat → Nat} {m i : Nat} (h : InvA H0 A t m i H) (e : Same H H') : InvA H0 A t m i H' := by
  obtain ⟨h1, L, h2, h3, h4⟩ := h
  exact ⟨h1.trans e, L, fun j hj => ⟨(h2 j hj).1, (h2 j hj).2.1, e _ _ (h2 j hj).2.2⟩, h3, e _ _ h4⟩
theorem ok_alike (T : Tb P K mg ad) : FnOk P w K mg base (L2.CX P w) 9 ad.alike ad.dAlike ["net"] (spAlike ad.cNet ad.cBad) := by
  have GT : FnOk P w K mg base (L2.CX P w) 8 ad.tidied ad.dTidied ["net"] (spTidied ad.cNet ad.cBad) := ok_tidied T
  have bT := T.tc.tx.fTidied.binds (ps := ["net"]) fun _ _ _ _ _ _ us hl => match us, hl with | [_], _ => rfl
  have GP : FnOk P w K mg base CX0 2 ad.pb ad.dPB ["self", "name", "place", "many"] (spPB ad.cNet) := ok_pb T.tc
  have bP := T.tc.tx.fPB.binds (ps := ["self", "name", "place", "many"]) fun _ _ _ _ _ _ us hl => match us, hl with | [_, _, _, _], _ => rfl
  refine T.tc.tx.fAlike.okX scAlike (fun vs H Q E h => ?_) (fun cdv A outer s H vs Q E hr h => ?_)
  · obtain ⟨v, rfl, _⟩ := h
    rfl
  · obtain ⟨v, rfl, h⟩ := h
    have hr2 : Room 2 _ := hr.mono (by decide)
    refine ⟨_, pss_cons (ps_set (i := 1) scAlike.nd rfl (.inl rfl) (pe_callS GT hr (by rfl) T.tc.tx.gTidied T.tc.tx.fTidied.kp bT (fun σ => passAt (takes_of rfl rfl rfl rfl) σ) (by exact (pa_cons (pv 0) pa_nil))))
      (pss_cons (ps_set (i := 2) scAlike.nd rfl (.inl rfl) pe_dnewK)
      (pss_cons (ps_lock (ps_for (passes_of rfl) rfl (pi_items (pe_fld (pv 0) rfl)) (pg_tup (by rfl) (pgs_cons (pg_name (i := 3) scAlike.nd rfl (.inl rfl)) (pgs_cons (pg_tup (by rfl) (pgs_cons (pg_name (i := 4) scAlike.nd rfl (.inl rfl)) (pgs_cons (pg_name (i := 5) scAlike.nd rfl (.inl rfl)) pgs_nil))) pgs_nil)))
        (pss_cons (ps_set (i := 6) scAlike.nd rfl (.inl rfl) pe_dnewK)
        (pss_cons (ps_for (passes_of rfl) rfl (pi_range1 (by rfl) T.tc.tx.range (pa_cons (pe_op op_add (pe_callB (call_lenK (K := K) rfl) (by rfl) T.tc.tx.len PySem.boot_len (pa_cons (pv 4) pa_nil)) (pe_callB (call_lenK (K := K) rfl) (by rfl) T.tc.tx.len PySem.boot_len (pa_cons (pv 5) pa_nil))) pa_nil)) (pg_name (i := 7) scAlike.nd rfl (.inl rfl))
          (pss_one (ps_expr (pe_bm PySem.F.plainAttrs_list PySem.F.slot_list_append PySem.F.type_list_append mt_append
            (pe_dsetd (pv 6) (pe_meth (pv 1) T.tc.tx.cl T.tc.tx.mPB GP hr2 bP .nil pass0 (pa_cons (pv 3) (pa_cons pe_int (pa_cons (pv 7) pa_nil)))) (pe_lst pa_nil) ⟨rfl, rfl, rfl, rfl⟩) (pa_cons (pv 7) pa_nil)))))
        (pss_one (ps_dput (hu_of hr) (pv 2) (pv 3) (pe_listVals rfl (pv 6) (by rfl) T.tc.tx.list b_list) rfl))))))
      (pss_one (ps_ret (pv 2))))), ?_⟩
    rcases h with ⟨x, n, ks, y, rfl, nx, sk, hy, k⟩ | ⟨hn, r⟩
    · obtain ⟨dx0, ka0, ia0, oa0, kv0, iv0, g1, g2, g3, g4, g5, g6⟩ := nx.ex
      refine ⟨_, rfl, _, rfl, .inl ⟨x, n, ks, y, rfl, nx, sk, hy, fun x' H1 hx' e1 nn => ?_⟩⟩
      have l4 := sk.g.le
      have lk := sk.len
      have h1 := e1 _ _ g1
      have h2 := e1 _ _ g2
      have h3 := g3.go e1
      have xka : x ≠ ka0 := ne_of h1 h2 (by intro z; cases z)
      intro fd hfd
      refine q_itemsB (K := K) (u := tRet (tVar 2)) h2 h3 (same_upd hfd) (k := fun od => ?_)
      have ntd : NetAt (upd H1 ka0 (HO.frz od (.dK kv0))) ad.cNet x' (kd (tks ks)) (id_ (is0 y)) ["o", "p"] := (nn.mut (o := HO.frz od (.dK kv0)) g2 (.inl ⟨_, h2⟩)).net
      have fka : fd ≠ ka0 := fun z => by rw [z, h2] at hfd; cases hfd
      have hfdL : upd H1 ka0 (HO.frz od (.dK kv0)) fd = none := by rw [upd_ne fka]; exact hfd
      have SL : Same (upd H1 ka0 (HO.frz od (.dK kv0))) (upd (upd H1 fd (.dK [])) ka0 (HO.frz od (.dK kv0))) := same_updB (same_upd hfd)
      refine ⟨fun H2 e2 => ev_fld (K := K) (ev_tv rfl) (e2 _ _ (by rw [upd_ne xka, upd_ne (ne_of_none h1 hfd)]; exact h1)) T.tc.tx.cl T.tc.tx.nKnots kn_f,
        fun g σ H' => (∃ x3 x4 x5 x6 x7, σ = [some (.ref x), some (.ref x'), some (.ref fd), x3, x4, x5, x6, x7]) ∧ Same (upd H1 ka0 (HO.frz od (.dK kv0))) H' ∧ ∃ kvs, H' fd = some (.dK kvs) ∧ Dk H' kvs ((ks.take g).map fun p => (p.1, alk p.2)),
        fun H2 e2 => ⟨⟨_, _, _, _, _, rfl⟩, SL.trans e2, [], e2 _ _ (by rw [upd_ne fka]; exact upd_same), .nil⟩, fun i σ H' p => p.2.1, fun i σ H' H'' e p => ?_, fun g z r vf vt σ H2 bk ct hi p hf ht => ?_, fun σ H2 p => ?_⟩
      · obtain ⟨p1, p2, kvs, p3, p4⟩ := p
        exact ⟨p1, p2.trans e, kvs, e _ _ p3, p4.go e⟩
      · obtain ⟨⟨x3, x4, x5, x6, x7, rfl⟩, e2, kvs, hkv, hdk⟩ := p
        have hzr : (z, r) ∈ ks := List.mem_of_getElem? hi
        have q : GRows n r := sk.g.rows (z, r) hzr
        have t1 : 0 < r.2.length := q.l2
        have rp : 1 ≤ (tr r).2.length := many_tr t1
        have f60 : r.1.length ≤ 60 := by have := q.l1; omega
        have t60 : r.2.length ≤ 60 := by have := q.l3; omega
        have mle := many_le t1
        have mf := map_drop_len r.1
        have mt := map_drop_len r.2
        intro A hA
        have lenS : ∀ {H' : Hp}, Same H2 H' → Ev (tOp (rI0 fun i j => .int (i + j)) (tCB (rLen K) (tCons (tVar 4) tNil)) (tCB (rLen K) (tCons (tVar 5) tNil))) [some (.ref x), some (.ref x'), some (.ref fd), some (.str z), some vf, some vt, some (.ref A), x7] H' (.int ((r.1.length + r.2.length : Nat) : Int)) := fun e => by
          have z1 := ev_lenTD (K := K) (te := tVar 4) (σ := [some (.ref x), some (.ref x'), some (.ref fd), some (.str z), some vf, some vt, some (.ref A), x7]) (evd_of (ev_tv rfl) (hf.go e))
          rw [mf] at z1
          have z2 := ev_I0 (g := fun i j => .int (i + j)) (tb := tCB (rLen K) (tCons (tVar 5) tNil)) (j := (r.2.length : Nat)) z1 fun H' e' => by
            have z1 := ev_lenTD (K := K) (te := tVar 5) (σ := [some (.ref x), some (.ref x'), some (.ref fd), some (.str z), some vf, some vt, some (.ref A), x7]) (evd_of (ev_tv rfl) (ht.go (e.trans e')))
            rw [mt] at z1
            exact z1
          have e3 : ((r.1.length + r.2.length : Nat) : Int) = ((r.1.length : Nat) : Int) + ((r.2.length : Nat) : Int) := by omega
          rw [e3]
          exact z2
        refine q_forN1 (lenS (same_upd hA)) (by omega) (fun i σ H' => (∃ x7, σ = [some (.ref x), some (.ref x'), some (.ref fd), some (.str z), some vf, some vt, some (.ref A), x7]) ∧ InvA H2 A (tpl r) (many r) i H')
          (fun H3 e3 => ⟨⟨_, rfl⟩, (same_upd hA).trans e3, fun _ => 0, fun j hj => absurd hj (by rw [Nat.zero_min]; omega), fun j _ hj => absurd hj (by rw [Nat.zero_min]; omega), by rw [Nat.zero_min]; exact e3 _ _ upd_same⟩) (fun i σ H3 hi2 p => ?_) fun σ H3 p => ?_
        · obtain ⟨⟨x7, rfl⟩, e3, L, p2, p3, p4⟩ := p
          refine ⟨_, rfl, A, rfl, .inl ⟨_, .inl p4⟩, ?_⟩
          have zz := ev_pb (E := E0) (C := ad.cNet) (ta := tVar 1) (t := tCons (tVar 3) (tCons (tC (.int 0)) (tCons (tVar 7) tNil))) (σ := [some (.ref x), some (.ref x'), some (.ref fd), some (.str z), some vf, some vt, some (.ref A), some (.int (i : Nat))]) (p := 0) (m := i) (z := z) (r := tr r) (ks := tks ks) (ev_tv rfl)
            (fun H7 e7 => ea_cons (ev_tv rfl) fun _ e8 => ea_cons ev_tc fun _ e9 => ea_cons (ev_tv rfl) fun _ _ => ea_nil) (ntd.go (e2.trans e3)) sk.tidy.nd (tks_mem hzr) rp
          rw [Nat.zero_add] at zz
          refine zz _ fun H4 e4 => ⟨Nat.zero_le _, fun l hl => ?_⟩
          have p4' : (upd H4 l (.lst [])) A = some (.dK ((List.range (min i (many r))).map fun j => ((.inl (j : Nat) : Key), V.ref (L j)))) := same_upd hl _ _ (e4 _ _ p4)
          have e24 : Same H2 (upd H4 l (.lst [])) := e3.trans (e4.trans (same_upd hl))
          have hl2 : H2 l = none := e3.free (e4.free hl)
          have tlt := tpl_lt t1 i
          have tle := tpl_lt2 t1 i
          refine ⟨_, .inl ((tpl r i : Nat) : Int), p4', rfl, by rw [List.length_map, List.length_range]; exact szl (by have := Nat.min_le_right i (many r); omega), fun v hv => ?_, fun hv => ?_⟩
          · have hlt : tpl r i < min i (many r) := by
              rcases Nat.lt_or_ge (tpl r i) (min i (many r)) with z | z
              · exact z
              · rw [valV_range fun j hj e => by have e2 := Sum.inl.inj e; omega] at hv
                cases hv
            have hge : many r ≤ i := by
              rcases Nat.lt_or_ge i (many r) with z | z
              · rw [tpl_id z, Nat.min_eq_left (Nat.le_of_lt z)] at hlt
                omega
              · exact z
            have ev : v = .ref (L (tpl r i)) := by
              rw [valV_rangeAt hlt (fun j hj e => by have e2 := Sum.inl.inj e; omega)] at hv
              exact (Option.some.inj hv).symm
            subst ev
            obtain ⟨q1, q2, q3⟩ := p2 _ hlt
            have q4 : (upd H4 l (.lst [])) (L (tpl r i)) = _ := same_upd hl _ _ (e4 _ _ q3)
            refine ⟨.inl ⟨rfl, _, SqL.of q4⟩, _, rfl, _, _, _, rfl, rfl, q4, by rw [List.length_map]; exact szl (by have := grp_len (tpl r) i (tpl r i); omega), ⟨_, rfl⟩, Same.mut e24 q1, L, fun j hj => ?_, fun j j' hj hj' => ?_, ?_⟩
            · have mi : min (i + 1) (many r) = min i (many r) := by omega
              rw [mi] at hj
              obtain ⟨w1, w2, w3⟩ := p2 _ hj
              refine ⟨w1, w2, ?_⟩
              rw [grp_succ]
              by_cases ej : tpl r i = j
              · subst ej
                rw [if_pos rfl, List.map_append, upd_same]
                rfl
              · rw [if_neg ej, upd_ne (fun e => ej (p3 _ _ hlt hj e.symm))]
                exact same_upd hl _ _ (e4 _ _ w3)
            · have mi : min (i + 1) (many r) = min i (many r) := by omega
              rw [mi] at hj hj'
              exact p3 _ _ hj hj'
            · have mi : min (i + 1) (many r) = min i (many r) := by omega
              rw [mi, upd_ne q2.symm]
              exact p4'
          · have him : i < many r := by
              rcases Nat.lt_or_ge i (many r) with z | z
              · exact z
              · rw [valV_rangeAt (j := tpl r i) (by omega) (fun j hj e => by have e2 := Sum.inl.inj e; omega)] at hv
                cases hv
            have eti := tpl_id him
            have mi : min i (many r) = i := by omega
            have mi2 : min (i + 1) (many r) = i + 1 := by omega
            rw [mi] at p2 p3 p4 p4' hv
            have lA : l ≠ A := (ne_of_none (e4 _ _ p4) hl).symm
            have q4 : upd (upd H4 l (.lst [])) A (.dK (putK ((List.range i).map fun j => ((.inl (j : Nat) : Key), V.ref (L j))) (.inl ((tpl r i : Nat) : Int)) (.ref l))) l = some (.lst []) := by rw [upd_ne lA]; exact upd_same
            rw [mi]
            refine ⟨.inl ⟨rfl, _, SqL.of q4⟩, _, rfl, _, _, _, rfl, rfl, q4, by show 0 < sizeLine; decide, ⟨_, rfl⟩, Same.mut (Same.mut e24 hA) hl2, fun j => if j = i then l else L j, fun j hj => ?_, fun j j' hj hj' e => ?_, ?_⟩
            · rw [mi2] at hj
              show (H2 (if j = i then l else L j) = none) ∧ ((if j = i then l else L j) ≠ A) ∧ (L2.upd _ l _ (if j = i then l else L j) = _)
              by_cases ej : j = i
              · subst ej
                have g0 : grp (tpl r) j j = [] := grp_nil fun p hp => by have := tpl_lt2 t1 p; omega
                rw [if_pos rfl]
                refine ⟨hl2, lA, ?_⟩
                rw [upd_same, grp_succ, if_pos eti, g0]
                rfl
              · rw [if_neg ej]
                obtain ⟨w1, w2, w3⟩ := p2 j (by omega)
                refine ⟨w1, w2, ?_⟩
                rw [grp_succ, if_neg (by omega), upd_ne (ne_of_none (e4 _ _ w3) hl), upd_ne w2]
                exact same_upd hl _ _ (e4 _ _ w3)
            · rw [mi2] at hj hj'
              by_cases ej : j = i
              · by_cases ej' : j' = i
                · rw [ej, ej']
                · replace e : (if j = i then l else L j) = (if j' = i then l else L j') := e
                  rw [if_pos ej, if_neg ej'] at e
                  exact absurd e.symm (ne_of_none (e4 _ _ (p2 j' (by omega)).2.2) hl)
              · by_cases ej' : j' = i
                · replace e : (if j = i then l else L j) = (if j' = i then l else L j') := e
                  rw [if_neg ej, if_pos ej'] at e
                  exact absurd e (ne_of_none (e4 _ _ (p2 j (by omega)).2.2) hl)
                · replace e : (if j = i then l else L j) = (if j' = i then l else L j') := e
                  rw [if_neg ej, if_neg ej'] at e
                  exact p3 j j' (by omega) (by omega) e
            · rw [mi2, upd_ne lA.symm, upd_same, putK_new _ hv, List.range_succ, List.map_append, eti]
              show some (HO.dK (_ ++ _)) = some (HO.dK (_ ++ [_]))
              congr 2
              refine congr (congrArg _ (List.map_congr_left fun j hj => ?_)) ?_
              · have hj := List.mem_range.mp hj
                show _ = ((Sum.inl (j : Int) : Key), V.ref (if j = i then l else L j))
                rw [if_neg (by omega)]
              · show _ = [((Sum.inl (i : Int) : Key), V.ref (if i = i then l else L i))]
                rw [if_pos rfl]
        · obtain ⟨⟨x7, rfl⟩, e3, L, p2, p3, p4⟩ := p
          have mn : min (r.1.length + r.2.length) (many r) = many r := by omega
          rw [mn] at p2 p3 p4
          have e23 := e2.trans e3
          have ld : kvs.length = ((ks.take g).map fun p => (p.1, alk p.2)).length := hdk.length
          rw [List.length_map, List.length_take] at ld
          refine s_dputD (k := .inr z) (d := alk r) (a := fd) (kvs := kvs) (fun Q q => ⟨_, rfl, A, _, rfl, p4, fun l hl => q _ _ (same_upd hl) ?_⟩) (fun _ _ => ev_tv rfl) (fun _ _ => ev_tv rfl) (e3 _ _ hkv) (by omega) fun v H4 e4 hd4 => ?_
          · refine .lst upd_same ?_
            rw [List.map_map]
            exact dts_lists L (fun j => grp (tpl r) (r.1.length + r.2.length) j) _ fun j hj => same_upd hl _ _ (p2 j (List.mem_range.mp hj)).2.2
          · have hfd4 : H4 fd = some (.dK kvs) := e4 _ _ (e3 _ _ hkv)
            have new : valV kvs (.inr z) = none := valV_no fun mm => by
              have hk2 := hdk.keys
              have mm2 : (Sum.inr z : Key) ∈ kvs.map (·.1) := mm
              rw [hk2] at mm2
              obtain ⟨z', hz', e⟩ := List.mem_map.mp mm2
              have e' : z' = z := Sum.inr.inj e
              subst e'
              rw [List.map_map] at hz'
              have hz2 : z' ∈ (kn ks).take g := by
                unfold kn
                rw [← List.map_take]
                exact hz'
              have hkz : (kn ks)[g]? = some z' := by
                unfold kn
                rw [List.getElem?_map, hi]
                rfl
              exact not_in_take sk.nd hkz hz2
            have tl : TL H4 (upd H4 fd (.dK (putK kvs (.inr z) v))) := TL.upd (fun xs z => by rw [hfd4] at z; cases z) (fun xs z => by rw [hfd4] at z; cases z)
            refine ⟨⟨_, _, _, _, _, rfl⟩, Same.mut (e23.trans e4) hfdL, kvs ++ [(.inr z, v)], by rw [upd_same, putK_new _ new], ?_⟩
            rw [take_snoc hi, List.map_append]
            exact Dk.snoc (Dt.tl tl _ _ hd4) (dk_ts (fun p _ v q => Dt.tl tl _ _ q) (hdk.go (e3.trans e4)))
      · obtain ⟨⟨x3, x4, x5, x6, x7, rfl⟩, e2, kvs, hkv, hdk⟩ := p
        rw [List.take_length] at hdk
        have tl : TL H2 (upd H2 ka0 (.dK kv0)) := TL.upd (fun xs z => by rw [e2 _ _ upd_same] at z; cases z) (fun xs z => by rw [e2 _ _ upd_same] at z; cases z)
        refine s_ret (ev_tv rfl) fun H4 e4 => k fd kvs H4 (e1.free hfd) (e1.trans ((same_unlock h2 e2).trans e4)) (e4 _ _ (by rw [upd_ne fka]; exact hkv)) ((dk_ts (fun p _ v q => Dt.tl tl _ _ q) hdk).go e4)
    · exact ⟨_, rfl, _, rfl, .inr ⟨hn, r⟩⟩
end
end Bc

/-! comprehensions, told by what holds of the items made -/
namespace Bc
open PySem L2 PyProof.Rows StX
theorem hide_upd_at {H : Hp} {D : Addr} {o : HO} : hide (upd H D o) D = hide H D := by
  funext b
  unfold hide
  by_cases h : b = D
  · rw [if_pos h, if_pos h]
  · rw [if_neg h, if_neg h, upd_ne h]
theorem tsm_hide {H : Hp} {D : Addr} {acc : List V} (h : H D = some (.lst acc)) : Tsm H (hide H D) := fun b xs q => by
  rw [hide_ne (fun e => by rw [e, h] at q; cases q)]
  exact q
/-- a comprehension over a walk, with whatever target and tests -/
theorem lc_rel {J : It} {n : Nat} {G : Hp → Prop} {Y : Nat → Hp → V → Hp → Prop} (w : Walk J n G Y) {g : TG} {tt : TT} {te : TE} {vs : List Nat} {σ : L2.St} {H1 : Hp} {D : Addr} {Qd : Hp → Prop} (Inv : Nat → List V → Hp → Prop)
    (hm : ∀ i acc H H', Same H H' → Inv i acc H → Inv i acc H') (h0 : Inv 0 [] H1) (hD : H1 D = none) (hn : n < 100000) (hG : ∀ H, Same H1 H → G H)
    (hs : ∀ i x H H' acc, i < n → Same H1 H → H D = some (.lst acc) → Inv i acc (hide H D) → Y i H x H' → ∀ (Q1 : VK) (Q2 : Hp → Prop), (∀ y H4, Same H H4 → Inv (i + 1) (acc ++ [y]) (hide H4 D) → Q1 y H4) → (∀ H3, Same H H3 → Inv (i + 1) acc (hide H3 D) → Q2 H3) →
      g x (wipe σ vs) H' fun σ2 H2 => wipe σ2 vs = wipe σ vs ∧ tt σ2 H2 fun b H3 => if b = true then te σ2 H3 Q1 else Q2 H3)
    (hd : ∀ ys H, Inv n ys (hide H D) → Same H1 H → H D = some (.lst ys) → Qd H) : ∃ W : Nat → Nat → Hp → Prop, (∃ m, W 0 m (upd H1 D (.lst []))) ∧ ∀ i m H, W i m H →
      (J.stop i H ∧ Qd H) ∨ (J.go i H ∧ ∃ Nx : Hp → Prop, (∀ H', Nx H' → ∃ m', m' < m ∧ W (i + 1) m' H') ∧ ∀ x H', J.yld i H x H' → g x (wipe σ vs) H' fun σ2 H2 => wipe σ2 vs = wipe σ vs ∧ tt σ2 H2 fun b H3 => if b = true then te σ2 H3 fun y H4 => ∃ acc, H4 D = some (.lst acc) ∧ acc.length < sizeLine ∧ Nx (upd H4 D (.lst (acc ++ [y]))) else Nx H3) := by
  refine lc_it w (fun i H => Same H1 H ∧ ∃ acc, H D = some (.lst acc) ∧ acc.length ≤ i ∧ Inv i acc (hide H D)) ⟨same_upd hD, [], upd_same, Nat.le_refl _, hm _ _ _ _ (same_hide (same_upd hD) hD) h0⟩ (fun i H _ p => hG H p.1) (fun i x H H' hi p y => ?_) (fun H p => ?_)
  · obtain ⟨s1, acc, ha, hl, hr⟩ := p
    refine hs i x H H' acc hi s1 ha hr y _ _ (fun y H4 e r => ⟨acc, e _ _ ha, szl (by omega), Same.mut (s1.trans e) hD, acc ++ [y], upd_same, by rw [List.length_append, List.length_singleton]; omega, ?_⟩) (fun H3 e r => ⟨s1.trans e, acc, e _ _ ha, by omega, r⟩)
    rw [hide_upd_at]
    exact r
  · obtain ⟨s1, acc, ha, hl, hr⟩ := p
    exact hd acc H hr s1 ha
/-- a list of pairs; of the second parts R holds -/
def EvPrR (te : TE) (σ : L2.St) (H : Hp) (zs : List Str) (R : Nat → PyData → Prop) : Prop := ∀ Q : VK, (∀ p H' ts kvs ds, H p = none → Same H H' → H' p = some (.lst (ts.map V.ref)) → Paired (fun t kv => H' t = some (.tup [kV kv.1, kv.2])) ts kvs → Dk H' kvs ds → ds.map (fun p => p.1) = zs → (∀ i d, ds[i]? = some d → R i d.2) → Q (.ref p) H') → te σ H Q
def EvKR (te : TE) (σ : L2.St) (H : Hp) (zs : List Str) (R : Nat → PyData → Prop) : Prop := ∀ Q : VK, (∀ p H' kvs ds, H p = none → Same H H' → H' p = some (.dK kvs) → Dk H' kvs ds → ds.map (fun p => p.1) = zs → (∀ i d, ds[i]? = some d → R i d.2) → Q (.ref p) H') → te σ H Q
/-- data that R tells of, made item by item -/
def EvDR (te : TE) (σ : L2.St) (H : Hp) (R : PyData → Prop) : Prop := ∀ Q : VK, (∀ v d H', Same H H' → R d → Dt H' v d → Q v H') → te σ H Q
section
variable {K : PySem.W.Frag} {σ : L2.St} {H : Hp} {ta tb te tk tv tl : TE} {t : TA} {D : Ends} {u : TS}
theorem EvD.r {d : PyData} (h : EvD te σ H d) : EvDR te σ H fun e => e = d := fun Q q => h Q fun v H' e hd => q v d H' e rfl hd
theorem Ev.dr {v : V} {d : PyData} (h : Ev te σ H v) (hd : ∀ H', Dt H' v d) : EvDR te σ H fun e => e = d := fun Q q => h Q fun H' e => q v d H' e rfl (hd H')
theorem ekr_dict {zs : List Str} {R : Nat → PyData → Prop} (h : EvPrR te σ H zs R) (hn : zs.Nodup) : EvKR (tCB (rDictP K) (tCons te tNil)) σ H zs R := fun Q q => h _ fun p H1 ts kvs ds hp e1 hx hw hk hz hr => ⟨p, ts, kvs, rfl, SqL.of hx, L2.Paired.mapP hw fun _ _ h => SqT.of h, fun p' hp' => q p' _ kvs ds (e1.free hp') (e1.trans (same_upd hp')) (by
  rw [upd_same, merge_nd0]
  show (kvs.map (·.1)).Nodup
  rw [hk.keys]
  have e : ds.map (·.1) = zs := hz
  rw [e]
  exact List.pairwise_map.mpr (List.Pairwise.imp (fun ne e => ne (Sum.inr.inj e)) hn)) (hk.go (same_upd hp')) hz hr⟩
theorem lc_pairs {J : It} {n : Nat} {G : Hp → Prop} {Y : Nat → Hp → V → Hp → Prop} (w : Walk J n G Y) {g : TG} {vs : List Nat} {H1 : Hp} {D : Addr} {Qd : Hp → Prop} (zs : List Str) (R : Nat → PyData → Prop) (hlen : zs.length = n)
    (hts : ∀ i d, R i d → ∀ (H H' : Hp) v, Tsm H H' → Dt H v d → Dt H' v d) (hD : H1 D = none) (hn : n < 100000) (hG : ∀ H, Same H1 H → G H)
    (hs : ∀ i x H H' z, zs[i]? = some z → Same H1 H → Y i H x H' → ∃ σ2 : L2.St, Same H H' ∧ wipe σ2 vs = wipe σ vs ∧ (∀ C : L2.St → Hp → Prop, C σ2 H' → g x (wipe σ vs) H' C) ∧ Ev tk σ2 H' (.str z) ∧ ∀ H2, Same H' H2 → EvDR tv σ2 H2 (R i))
    (hd : ∀ ts kvs ds H, H D = some (.lst (ts.map V.ref)) → Paired (fun t kv => H t = some (.tup [kV kv.1, kv.2])) ts kvs → Dk H kvs ds → ds.map (fun p => p.1) = zs → (∀ i d, ds[i]? = some d → R i d.2) → Same H1 H → Qd H) : ∃ W : Nat → Nat → Hp → Prop, (∃ m, W 0 m (upd H1 D (.lst []))) ∧ ∀ i m H, W i m H →
      (J.stop i H ∧ Qd H) ∨ (J.go i H ∧ ∃ Nx : Hp → Prop, (∀ H', Nx H' → ∃ m', m' < m ∧ W (i + 1) m' H') ∧ ∀ x H', J.yld i H x H' → g x (wipe σ vs) H' fun σ2 H2 => wipe σ2 vs = wipe σ vs ∧ tYes σ2 H2 fun b H3 => if b = true then (tTup (tCons tk (tCons tv tNil))) σ2 H3 fun y H4 => ∃ acc, H4 D = some (.lst acc) ∧ acc.length < sizeLine ∧ Nx (upd H4 D (.lst (acc ++ [y]))) else Nx H3) := by
  refine lc_rel w (fun i acc H => ∃ ts kvs ds, acc = ts.map V.ref ∧ Paired (fun t kv => H t = some (.tup [kV kv.1, kv.2])) ts kvs ∧ Dk H kvs ds ∧ ds.map (fun p => p.1) = zs.take i ∧ ∀ k d, ds[k]? = some d → R k d.2) (fun i acc H H' e h => ?_) ⟨[], [], [], rfl, .nil, .nil, rfl, fun k d e => by simp at e⟩ hD hn hG (fun i x H2 H3 acc hi e2 ha inv y Q1 Q2 q1 _ => ?_) (fun ys H2 inv e2 hy => ?_)
  · obtain ⟨ts, kvs, ds, h1, h2, h3, h4, h5⟩ := h
    exact ⟨ts, kvs, ds, h1, L2.Paired.mapP h2 fun _ _ h => e _ _ h, h3.go e, h4, h5⟩
  · obtain ⟨ts, kvs, ds, rfl, hp, hk, hz, hr⟩ := inv
    have hzi : zs[i]? = some zs[i] := List.getElem?_eq_getElem (by omega)
    obtain ⟨σ2, e3, hw, hg, htk, htv⟩ := hs i x H2 H3 _ hzi e2 y
    refine hg _ ⟨hw, ?_⟩
    show tTup (tCons tk (tCons tv tNil)) σ2 H3 Q1
    refine htk _ fun H4 e4 => htv H4 e4 _ fun v d H5 e5 hR hdv => ⟨by show 2 ≤ sizeLine; decide, fun p hp' => q1 _ _ ((e3.trans (e4.trans e5)).trans (same_upd hp')) ?_⟩
    have e35 := e3.trans (e4.trans e5)
    have hD5 := e35 _ _ ha
    have hD6 := same_upd (o := HO.tup [V.str zs[i], v]) hp' _ _ hD5
    have em := hide_mono (D := D) (e35.trans (same_upd (o := HO.tup [V.str zs[i], v]) hp'))
    have dl : ds.length = i := by
      have := congrArg List.length hz
      rw [List.length_map, List.length_take] at this
      omega
    refine ⟨ts ++ [p], kvs ++ [(.inr zs[i], v)], ds ++ [(zs[i], d)], by rw [List.map_append]; rfl, paired_append (L2.Paired.mapP hp fun _ _ h => em _ _ h) (.cons ?_ .nil), Dk.snoc (hts i d hR _ _ v (tsm_hide hD6) (hdv.go (same_upd hp'))) (hk.go em), ?_, fun k d' e => ?_⟩
    · rw [hide_ne (fun e => by rw [e, hD5] at hp'; cases hp'), upd_same]
      rfl
    · rw [List.map_append, hz, take_snoc hzi]
      rfl
    · by_cases h : k < ds.length
      · rw [List.getElem?_append_left h] at e
        exact hr k d' e
      · have hk : k = i := by
          have := (List.getElem?_eq_some_iff.mp e).1
          rw [List.length_append, List.length_singleton] at this
          omega
        subst hk
        rw [List.getElem?_append_right (by omega), dl, Nat.sub_self] at e
        cases e
        exact hR
  · obtain ⟨ts, kvs, ds, rfl, hp, hk, hz, hr⟩ := inv
    rw [← hlen, List.take_length] at hz
    exact hd ts kvs ds H2 hy (L2.Paired.mapP hp fun t kv h => hide_same _ _ h) (hk.go hide_same) hz hr e2
/-- [(z, v) for z in l] -/
theorem epr_list {zs : List Str} {j : Nat} {R : Nat → PyData → Prop} {a : Addr} (h : Ev tl σ H (.ref a)) (ha : H a = some (.lst (zs.map V.str))) (hl : zs.length ≤ 1000) (hts : ∀ i d, R i d → ∀ (H H' : Hp) v, Tsm H H' → Dt H v d → Dt H' v d) (hw : ∀ x, wipe ((wipe σ [j]).set j (some x)) [j] = wipe σ [j])
    (hs : ∀ i z H', zs[i]? = some z → Same H H' → Ev tk ((wipe σ [j]).set j (some (.str z))) H' (.str z) ∧ ∀ H2, Same H' H2 → EvDR tv ((wipe σ [j]).set j (some (.str z))) H2 (R i)) :
    EvPrR (tLc (iList K tl) (gName j) tYes (tTup (tCons tk (tCons tv tNil))) [j]) σ H zs R := fun Q q =>
  h _ fun H1 e1 => ⟨a, rfl, ⟨_, SqL.of (e1 _ _ ha)⟩, fun Dd hD => by
    refine lc_pairs (walk_list (K := K) (a := a) (xs := zs.map V.str)) zs R (List.length_map _).symm hts hD (by rw [List.length_map]; omega) (fun H2 e2 => SqL.of (e2 _ _ (e1 _ _ ha))) (fun i x H2 H3 z hz e2 y => ?_) (fun ts kvs ds H2 h2 hp hk hzs hr e2 => q Dd H2 ts kvs ds (e1.free hD) (e1.trans e2) h2 hp hk hzs hr)
    obtain ⟨rfl, hy⟩ := y
    rw [List.getElem?_map, hz] at hy
    cases hy
    obtain ⟨q1, q2⟩ := hs i z _ hz (e1.trans e2)
    exact ⟨_, Same.refl _, hw _, fun C c => c, q1, q2⟩⟩
/-- [(z, v) for i, z in enumerate(l)] -/
theorem epr_enum {zs : List Str} {j l n : Nat} {R : Nat → PyData → Prop} (h : ∀ Q : VK, (∀ p H', Same H H' → H' p = some (.lst (zs.map V.str)) → Q (.ref p) H') → tl σ H Q) (hl : zs.length ≤ 1000) (hts : ∀ i d, R i d → ∀ (H H' : Hp) v, Tsm H H' → Dt H v d → Dt H' v d) (hw : ∀ x y, wipe (((wipe σ [j, l]).set j (some x)).set l (some y)) [j, l] = wipe σ [j, l])
    (hs : ∀ (i : Nat) z H', zs[i]? = some z → Same H H' → Ev tk (((wipe σ [j, l]).set j (some (.int (i : Nat)))).set l (some (.str z))) H' (.str z) ∧ ∀ H2, Same H' H2 → EvDR tv (((wipe σ [j, l]).set j (some (.int (i : Nat)))).set l (some (.str z))) H2 (R i)) (hn : n = 2 := by rfl) :
    EvPrR (tLc (iEnum K (tCons tl tNil)) (gTup K n (gCons (gName j) (gCons (gName l) gNil))) tYes (tTup (tCons tk (tCons tv tNil))) [j, l]) σ H zs R := fun Q q =>
  h _ fun a H1 e1 ha => ⟨a, _, rfl, SqL.of ha, fun Dd hD => by
    refine lc_pairs (walk_enum (K := K) (a := a) (xs := zs.map V.str)) zs R (List.length_map _).symm hts hD (by rw [List.length_map]; omega) (fun H2 e2 => SqL.of (e2 _ _ ha)) (fun i x H2 H3 z hz e2 y => ?_) (fun ts kvs ds H2 h2 hp hk hzs hr e2 => q Dd H2 ts kvs ds (e1.free hD) (e1.trans e2) h2 hp hk hzs hr)
    obtain ⟨p, kx, v, rfl, ht, rfl, hu, hv⟩ := y
    cases hu
    replace hv : (zs.map V.str)[i]? = some v := hv
    rw [List.getElem?_map, hz] at hv
    cases hv
    have e3 := same_upd (o := HO.tup [V.int (i : Nat), V.str z]) ht
    obtain ⟨q1, q2⟩ := hs i z _ hz (e1.trans (e2.trans e3))
    exact ⟨_, e3, hw _ _, fun C c => ⟨p, _, rfl, SqT.of upd_same, hn.symm, _, _, rfl, _, _, rfl, rfl, c⟩, q1, q2⟩⟩
end
end Bc

namespace Bc
open PySem L2 PyProof.Rows StX
section
variable {P : Program} {w : World} {K : PySem.W.Frag} {mg : Str → Option Value} {base : Heap} {ad : Ad}
theorem okV_int (i : Int) (n : Nat) : okV (.int i) n = (decide (0 ≤ i) && decide (i < (n : Int))) := rfl
theorem dk_const {H : Hp} {c : PyData} {v : V} (hv : ∀ w, Dt H w c → w = v) : ∀ {kvs : List (Key × V)} {ds : List (Str × PyData)}, Dk H kvs ds → (∀ (i : Nat) (d : Str × PyData), ds[i]? = some d → d.2 = c) → kvs = (ds.map fun p => p.1).map fun z => ((.inr z : Key), v)
  | _, _, .nil, _ => rfl
  | _, _, .cons (v := u) (k := z) (d := d) h k, hc => by
    have e0 : d = c := hc 0 _ rfl
    rw [dk_const hv k fun i d e => hc (i + 1) d (by simpa using e)]
    subst e0
    have e1 : u = v := hv u h
    rw [e1]
    rfl
section
variable {σ : L2.St} {H : Hp} {te : TE} {D : Ends} {u : TS}
theorem q_forTP {tb : TS} {i j n : Nat} {R : List V → Hp → Prop} (h : ∀ Q : VK, (∀ p H1 xs, R xs H1 → Same H H1 → H1 p = some (.tup xs) → Q (.ref p) H1) → te σ H Q) (Ok : L2.St → Prop) (hOk : Ok σ)
    (hs : ∀ H1 xs, R xs H1 → Same H H1 → ∀ x σ' H', x ∈ xs → Same H1 H' → Ok σ' → ∃ t v1 v2, x = .ref t ∧ H' t = some (.tup [v1, v2]) ∧ tb { D with nx := fun σ2 H2 => Ok σ2 ∧ Same H1 H2, ct := fun σ2 H2 => Ok σ2 ∧ Same H1 H2, bk := u D } ((σ'.set i (some v1)).set j (some v2)) H') (hd : ∀ σ' H', Ok σ' → Same H H' → u D σ' H') (hn : n = 2 := by rfl) :
    tSeq (tFor (iTup K te) (gTup K n (gCons (gName i) (gCons (gName j) gNil))) tb) u D σ H := h _ fun p H1 xs r e1 hx => ⟨p, rfl, ⟨xs, SqT.of hx⟩, for_it (walk_tup (K := K) (a := p) (xs := xs)) (fun _ σ' H' => Ok σ' ∧ Same H1 H') ⟨hOk, Same.refl _⟩ (fun i σ' H' _ q => SqT.of (q.2 _ _ hx)) (fun i x σ' H2 H3 hi q y => by
      obtain ⟨rfl, hy⟩ := y
      obtain ⟨t, v1, v2, rfl, ht, g⟩ := hs H1 xs r e1 x σ' _ (List.mem_of_getElem? hy) q.2 q.1
      exact ⟨t, [v1, v2], rfl, SqT.of ht, hn.symm, v1, [v2], rfl, v2, [], rfl, rfl, g⟩) fun σ' H' q => hd σ' H' q.1 (e1.trans q.2)⟩
end
theorem ev_xf {te : TE} {σ : L2.St} {H : Hp} {a0 C d : Addr} {fs : List (Str × V)} {f : Str} {v : V} (ha : Ev te σ H (.ref a0)) (hd : H d = some (.xd fs)) (hl : fs.lookup f = some v) : Ev (tXf a0 (.ref C) (some d) C f te) σ H v := fun Q q => ha _ fun H1 e1 => ⟨rfl, rfl, d, fs, v, rfl, e1 _ _ hd, hl, q H1 e1⟩
/-! ### _law_refused -/
def spRef (C : Addr) : Sp := fun vs H Q _ => ∃ (x zl : Addr) (n : Nat) (ks : Knots) (y : Str), vs = [.ref x, .ref zl] ∧ NetS H C x ks y ∧ SK n ks ∧ y ∈ ab.take n ∧ (∀ p ∈ ks, p.2.1.length + p.2.2.length ≤ 60) ∧ H zl = some (.lst ((kn ks).map V.str)) ∧ ∀ H', Same H H' → Q (.bl true) H'
abbrev nmRef : List Str := ["net", "names", "number", "bad", "error", "name"]
theorem scRef : FnScope nmRef ["net", "names"] (defScope sRef) := ⟨rfl, rfl, rfl, by decide +kernel, rfl, by decide +kernel, by decide +kernel⟩
theorem ok_ref (T : Tb P K mg ad) : FnOk P w K mg base CX0 10 ad.refd ad.dRefd ["net", "names"] (spRef ad.cNet) := by
  have G1 : FnOk P w K mg base (L2.CX P w) 8 ad.tidied ad.dTidied ["net"] (spTidied ad.cNet ad.cBad) := ok_tidied T
  have b1 := T.tc.tx.fTidied.binds (ps := ["net"]) fun _ _ _ _ _ _ us hl => match us, hl with | [_], _ => rfl
  have G2 : FnOk P w K mg base (L2.CX P w) 9 ad.isTidy ad.dIsTidy ["net"] (spIsTidy ad.cNet ad.cBad) := ok_isTidy T
  have b2 := T.tc.tx.fIsTidy.binds (ps := ["net"]) fun _ _ _ _ _ _ us hl => match us, hl with | [_], _ => rfl
  have G3 : FnOk P w K mg base (L2.CX P w) 9 ad.alike ad.dAlike ["net"] (spAlike ad.cNet ad.cBad) := ok_alike T
  have b3 := T.tc.tx.fAlike.binds (ps := ["net"]) fun _ _ _ _ _ _ us hl => match us, hl with | [_], _ => rfl
  have G4 : FnOk P w K mg base (L2.CX P w) 9 ad.tidSt ad.dTidSt ["net", "standing"] (spTidSt ad.cNet ad.cBad ad.cStd) := ok_tidSt T
  have b4 := T.tc.tx.fTidSt.binds (ps := ["net", "standing"]) fun _ _ _ _ _ _ us hl => match us, hl with | [_, _], _ => rfl
  refine T.tc.tx.fRef.ok scRef (fun vs H Q E h => ?_) (fun cdv A outer s H vs Q E hr h => ?_)
  · obtain ⟨x, zl, n, ks, y, rfl, _⟩ := h
    rfl
  · obtain ⟨x, zl, n, ks, y, rfl, nx, sk, hy, hsz, hzl, k⟩ := h
    have hr8 : Room 8 _ := hr.mono (by decide)
    have hr9 : Room 9 _ := hr.mono (by decide)
    refine ⟨_, pss_cons (ps_for PassesOwn.never rfl (pi_tup (pe_tup (pa_cons (pe_tup (pa_cons pe_int (pa_cons pe_non pa_nil))) (pa_cons (pe_tup (pa_cons pe_int (pa_cons pe_int pa_nil))) (pa_cons (pe_tup (pa_cons pe_int (pa_cons pe_dnewK pa_nil))) (pa_cons (pe_tup (pa_cons pe_int (pa_cons pe_str pa_nil))) pa_nil)))))) (pg_tup (by rfl) (pgs_cons (pg_name (i := 2) scRef.nd rfl (.inl rfl)) (pgs_cons (pg_name (i := 3) scRef.nd rfl (.inl rfl)) pgs_nil)))
        (pss_one (ps_try_as (i := 4) (tb := fun W => tSeq (tDrop (tIf (tTest (tOp rEq (tVar 2) (tC (.int 0)))) (tCallS (spTidied ad.cNet ad.cBad) (WE W) (tCons (tVar 3) tNil)) (tIf (tTest (tOp rEq (tVar 2) (tC (.int 1)))) (tCallS (spIsTidy ad.cNet ad.cBad) (WE W) (tCons (tVar 3) tNil)) (tIf (tTest (tOp rEq (tVar 2) (tC (.int 2)))) (tCallS (spAlike ad.cNet ad.cBad) (WE W) (tCons (tVar 3) tNil)) (tCallS (spTidSt ad.cNet ad.cBad ad.cStd) (WE W) (tCons (tVar 3) (tCons tDNewK tNil))))))) (tRet (tC (.bl false))))
          (ts := fun a cls d => tIfS (tTest (tOp (fun x y H Q => y = V.non ∧ Q (V.bl !decide (x = V.non)) H) (tXf a cls d ad.cBad "name" (tVar 4)) (tC .non))) (tRet (tC (.bl false))) tNext) (Wout := fun _ _ _ _ => False)
          rfl rfl scRef.nd rfl rfl ⟨rfl, by decide, Or.inl T.bad.gC⟩ takes0
          (fun W pn xe tk _ => pss_cons (ps_expr (by exact (pe_ifExp (pt_cmpR op_eq (pv 2) pe_int (nomark _)) (pe_callS G1 hr8 (by rfl) T.tc.tx.gTidied T.tc.tx.fTidied.kp b1 (fun σ => passAt tk σ) (by exact (pa_cons (pv 3) pa_nil))) (pe_ifExp (pt_cmpR op_eq (pv 2) pe_int (nomark _)) (pe_callS G2 hr9 (by rfl) T.tc.tx.gIsTidy T.tc.tx.fIsTidy.kp b2 (fun σ => passAt tk σ) (by exact (pa_cons (pv 3) pa_nil)))
            (pe_ifExp (pt_cmpR op_eq (pv 2) pe_int (nomark _)) (pe_callS G3 hr9 (by rfl) T.tc.tx.gAlike T.tc.tx.fAlike.kp b3 (fun σ => passAt tk σ) (by exact (pa_cons (pv 3) pa_nil))) (pe_callS G4 hr9 (by rfl) T.tc.tx.gTidSt T.tc.tx.fTidSt.kp b4 (fun σ => passAt tk σ) (by exact (pa_cons (pv 3) (pa_cons pe_dnewK pa_nil))))))))) (pss_one (ps_ret (by exact pe_bl))))
          (fun a oe cls d pn hz hf => pss_one (ps_if (by exact (pt_cmpR op_notN (pe_xf T.xf T.bad.noN hz hf (pv 4)) pe_non (nomark _))) (pss_one (ps_ret (by exact pe_bl))) pss_nil)))))
      (pss_cons (ps_for PassesOwn.never rfl (pi_tup (pe_tup (pa_cons pe_non (pa_cons pe_dnewK (pa_cons (pe_callTy (call_dictP rfl) (by rfl) T.tc.tx.dict b_dict (pa_cons (pe_lc (own := [("name", 5)]) (g := gName 5) (tt := tYes) rfl scRef.nd (pi_list (pv 1)) (blkOk_by (N := nmRef) (sc := defScope sRef) (by decide +kernel)) (fun _ _ _ _ _ => pg_name (i := 5) scRef.nd rfl (Or.inl rfl)) (fun _ _ _ _ _ => pts_nil) (fun _ _ _ _ _ => pe_tup (pa_cons (pv 5) (pa_cons pe_int pa_nil)))) pa_nil))
          (pa_cons (pe_callTy (call_dictP rfl) (by rfl) T.tc.tx.dict b_dict (pa_cons (pe_lc (own := [("name", 5)]) (g := gName 5) (tt := tYes) rfl scRef.nd (pi_list (pv 1)) (blkOk_by (N := nmRef) (sc := defScope sRef) (by decide +kernel)) (fun _ _ _ _ _ => pg_name (i := 5) scRef.nd rfl (Or.inl rfl)) (fun _ _ _ _ _ => pts_nil) (fun _ _ _ _ _ => pe_tup (pa_cons (pv 5) (pa_cons (pe_un un_neg pe_int) pa_nil)))) pa_nil))
          (pa_cons (pe_callTy (call_dictP rfl) (by rfl) T.tc.tx.dict b_dict (pa_cons (pe_lc (own := [("name", 5)]) (g := gName 5) (tt := tYes) rfl scRef.nd (pi_list (pv 1)) (blkOk_by (N := nmRef) (sc := defScope sRef) (by decide +kernel)) (fun _ _ _ _ _ => pg_name (i := 5) scRef.nd rfl (Or.inl rfl)) (fun _ _ _ _ _ => pts_nil) (fun _ _ _ _ _ => pe_tup (pa_cons (pv 5) (pa_cons pe_bl pa_nil)))) pa_nil)) pa_nil))))))) (pg_name (i := 3) scRef.nd rfl (.inl rfl))
        (pss_one (ps_try_only (tb := fun W => tSeq (tDrop (tCallS (spTidSt ad.cNet ad.cBad ad.cStd) (WE W) (tCons (tVar 0) (tCons (tVar 3) tNil)))) (tRet (tC (.bl false)))) (ts := fun a cls d => tNext) (Wout := fun _ _ _ _ => False)
          rfl rfl ⟨rfl, by decide, Or.inl T.gS⟩ takes0
          (fun W pn xe tk _ => pss_cons (ps_expr (by exact (pe_callS G4 hr9 (by rfl) T.tc.tx.gTidSt T.tc.tx.fTidSt.kp b4 (fun σ => passAt tk σ) (by exact (pa_cons (pv 0) (pa_cons (pv 3) pa_nil)))))) (pss_one (ps_ret (by exact pe_bl))))
          (fun a oe cls d pn hz hf => pss_one ps_pass))))
      (pss_one (ps_ret pe_bl))), ?_⟩
    have l4 := sk.g.le
    have l1 := sk.g.pos
    have lk := sk.len
    have knl : (kn ks).length = ks.length := List.length_map _
    have cut : ∀ (v : V), (∀ n, n ≤ 60 → okV v n = false) → (ks.all fun p => okV v (p.2.1.length + p.2.2.length)) = false := fun v hv => by
      cases ks with
      | nil => simp at lk; omega
      | cons p r =>
        rw [List.all_cons, hv _ (hsz p List.mem_cons_self)]
        rfl
    have dct : ∀ {tv : TE} {v : V} {c : PyData} {σ : L2.St} {H1 : Hp}, σ[1]? = some (some (.ref zl)) → (∀ x, wipe ((wipe σ [5]).set 5 (some x)) [5] = wipe σ [5]) → (∀ x, ((wipe σ [5]).set 5 (some x))[5]? = some (some x)) → (∀ H w, Dt H w c → w = v) → (∀ H, Dt H v c) → Same H H1 → (∀ σ H, Ev tv σ H v) →
        ∀ Q : VK, (∀ a H', Same H1 H' → H' a = some (.dK (stD ks fun _ => v)) → Q (.ref a) H') → tCB (rDictP K) (tCons (tLc (iList K (tVar 1)) (gName 5) tYes (tTup (tCons (tVar 5) (tCons tv tNil))) [5]) tNil) σ H1 Q := fun h1 hw h5 hv hc e1 htv Q q => by
      refine ekr_dict (zs := kn ks) (R := fun _ d => d = _) (epr_list (K := K) (ev_tv h1) (e1 _ _ hzl) (by omega) (fun i d e H H' v' _ hd => ?_) hw fun i z H' _ _ => ⟨ev_tv (h5 _), fun H2 _ => Ev.dr (htv _ _) hc⟩) sk.nd Q fun p H' kvs ds hp e hx hk hz hr => q p H' e ?_
      · subst e
        rw [hv _ _ hd]
        exact hc _
      · rw [hx, dk_const (hv H') hk hr, hz]
        rfl
    refine q_forTP (K := K) (R := fun xs H' => ∀ x ∈ xs, ∃ (t : Addr) (k : Int) (v : V), x = .ref t ∧ H' t = some (.tup [.int k, v]) ∧ NotNet H' v ∧ 0 ≤ k ∧ k < 4) (fun Q1 q1 => ?_) (fun σ => ∃ x2 x3 x4 x5, σ = [some (.ref x), some (.ref zl), x2, x3, x4, x5]) ⟨_, _, _, _, rfl⟩ (fun H1 xs r e1 v σ' H2 hv e2 ok => ?_) (fun σ' H1 ok e1 => ?_)
    · refine ⟨by show 2 ≤ sizeLine; decide, fun t0 h0 => ⟨by show 2 ≤ sizeLine; decide, fun t1 h1 => fun d hd => ⟨by show 2 ≤ sizeLine; decide, fun t2 h2 => ⟨by show 2 ≤ sizeLine; decide, fun t3 h3 => ⟨by show 4 ≤ sizeLine; decide, fun p hp => ?_⟩⟩⟩⟩⟩
      have s0 := same_upd (o := HO.tup [V.int 0, .non]) h0
      have s1 := same_upd (o := HO.tup [V.int 1, .int 3]) h1
      have sd := same_upd (o := HO.dK []) hd
      have s2 := same_upd (o := HO.tup [V.int 2, .ref d]) h2
      have s3 := same_upd (o := HO.tup [V.int 3, .str "net"]) h3
      have sp := same_upd (o := HO.tup [V.ref t0, .ref t1, .ref t2, .ref t3]) hp
      refine q1 p _ _ ?_ (s0.trans (s1.trans (sd.trans (s2.trans (s3.trans sp))))) upd_same
      intro v hv
      have m : v = .ref t0 ∨ v = .ref t1 ∨ v = .ref t2 ∨ v = .ref t3 := by simpa using hv
      rcases m with rfl | rfl | rfl | rfl
      · exact ⟨t0, 0, .non, rfl, (s1.trans (sd.trans (s2.trans (s3.trans sp)))) _ _ upd_same, .inl rfl, by decide, by decide⟩
      · exact ⟨t1, 1, .int 3, rfl, (sd.trans (s2.trans (s3.trans sp))) _ _ upd_same, .inr (.inl ⟨_, rfl⟩), by decide, by decide⟩
      · exact ⟨t2, 2, .ref d, rfl, (s3.trans sp) _ _ upd_same, .inr (.inr (.inr ⟨d, [], rfl, (s2.trans (s3.trans sp)) _ _ upd_same⟩)), by decide, by decide⟩
      · exact ⟨t3, 3, .str "net", rfl, sp _ _ upd_same, .inr (.inr (.inl ⟨_, rfl⟩)), by decide, by decide⟩
    · obtain ⟨t, k4, v2, rfl, ht, hn, k0, k4'⟩ := r v hv
      obtain ⟨x2, x3, x4, x5, rfl⟩ := ok
      refine ⟨t, _, _, rfl, e2 _ _ ht, ?_⟩
      have hn2 := hn.go e2
      have tst : ∀ {H' : Hp} (c : Int), EvB (tTest (tOp rEq (tVar 2) (tC (.int c)))) [some (.ref x), some (.ref zl), some (.int k4), some v2, x4, x5] H' (decide (V.int k4 = V.int c)) := fun c => EvB.of' (ev_eq (ev_tv rfl) (fun _ _ => ev_tc) rfl)
      have rai : ∀ {Dn : Ends} {H3 : Hp}, Same H2 H3 → (∀ x4 H', Same H2 H' → Dn.nx [some (.ref x), some (.ref zl), some (.int k4), some v2, x4, x5] H') → Raised ad.cBad .non H3 (WE (wAs K (.ref ad.cBad) 4 (fun a cls d => tIfS (tTest (tOp (fun x y H Q => y = V.non ∧ Q (V.bl !decide (x = V.non)) H) (tXf a cls d ad.cBad "name" (tVar 4)) (tC .non))) (tRet (tC (.bl false))) tNext) (fun _ _ _ _ => False) Dn) [some (.ref x), some (.ref zl), some (.int k4), some v2, x4, x5]) := fun {Dn H3} e3 hnx d H' e hd => by
        refine ⟨true, T.te, fun _ a0 _ => ?_, fun q => Bool.noConfusion q⟩
        have tb : EvB (tTest (tOp (fun x y H Q => y = V.non ∧ Q (V.bl !decide (x = V.non)) H) (tXf a0 (.ref ad.cBad) (some d) ad.cBad "name" (tVar 4)) (tC .non))) [some (.ref x), some (.ref zl), some (.int k4), some v2, some (.ref a0), x5] (upd H' d (.xd [(("name" : Str), .non)])) false := EvB.of' fun Q5 q5 => ev_xf (fs := [(("name" : Str), .non)]) (ev_tv rfl) upd_same Bn.lookN _ fun H5 e5 => ⟨rfl, q5 H5 e5⟩
        refine s_no tb fun H5 e5 => hnx _ _ (e3.trans (e.trans ((same_upd hd).trans e5)))
      have fin : ∀ x4 H', Same H2 H' → (∃ x2' x3' x4' x5', ([some (.ref x), some (.ref zl), some (.int k4), some v2, x4, x5] : L2.St) = [some (.ref x), some (.ref zl), x2', x3', x4', x5']) ∧ Same H1 H' := fun x4 H' e => ⟨⟨_, _, _, _, rfl⟩, e2.trans e⟩
      have k4c : k4 = 0 ∨ k4 = 1 ∨ k4 = 2 ∨ k4 = 3 := by omega
      refine tst 0 _ fun H3 e3 => ?_
      rcases k4c with rfl | rfl | rfl | rfl
      · rw [decide_eq_true rfl]
        exact iteT ⟨_, rfl, _, rfl, .inr ⟨hn2.go e3, rai e3 fin⟩⟩
      · rw [decide_eq_false (fun z => by injection z with z; omega)]
        refine iteF (tst 1 _ fun H4 e4 => ?_)
        rw [decide_eq_true rfl]
        exact iteT ⟨_, rfl, _, rfl, .inr ⟨hn2.go (e3.trans e4), rai (e3.trans e4) fin⟩⟩
      · rw [decide_eq_false (fun z => by injection z with z; omega)]
        refine iteF (tst 1 _ fun H4 e4 => ?_)
        rw [decide_eq_false (fun z => by injection z with z; omega)]
        refine iteF (tst 2 _ fun H5 e5 => ?_)
        rw [decide_eq_true rfl]
        have e35 := e3.trans (e4.trans e5)
        exact iteT ⟨_, rfl, _, rfl, .inr ⟨hn2.go e35, rai e35 fin⟩⟩
      · rw [decide_eq_false (fun z => by injection z with z; omega)]
        refine iteF (tst 1 _ fun H4 e4 => ?_)
        rw [decide_eq_false (fun z => by injection z with z; omega)]
        refine iteF (tst 2 _ fun H5 e5 => ?_)
        rw [decide_eq_false (fun z => by injection z with z; omega)]
        have e35 := e3.trans (e4.trans e5)
        refine iteF ⟨_, rfl, fun d hd => ⟨_, _, rfl, .inr ⟨hn2.go (e35.trans (same_upd hd)), rai (e35.trans (same_upd hd)) fin⟩⟩⟩
    · obtain ⟨x2, x3, x4, x5, rfl⟩ := ok
      refine q_forT (K := K) (R := fun xs H' => ∀ v ∈ xs, StV H' ks v false) (fun Q1 q1 => ?_) (fun σ => ∃ x2 x3 x4 x5, σ = [some (.ref x), some (.ref zl), x2, x3, x4, x5]) ⟨_, _, _, _, rfl⟩ (fun H2 xs r e2 v σ' H3 hv e3 ok => ?_) (fun σ' H2 ok e2 => ?_)
      · refine fun d hd => ?_
        have sd := same_upd (o := HO.dK []) hd
        refine dct rfl (fun _ => rfl) (fun _ => rfl) (v := .int 99) (c := .int 99) (fun H w hw => by cases hw; rfl) (fun H => .int _) (e1.trans sd) (fun _ _ => ev_tc) _ fun a3 H3 e3 h3 => ?_
        refine dct rfl (fun _ => rfl) (fun _ => rfl) (v := .int (-1)) (c := .int (-1)) (fun H w hw => by cases hw; rfl) (fun H => .int _) (e1.trans (sd.trans e3)) (fun _ _ Q q => ⟨1, rfl, q _ (Same.refl _)⟩) _ fun a4 H4 e4 h4 => ?_
        refine dct rfl (fun _ => rfl) (fun _ => rfl) (v := .bl false) (c := .bool false) (fun H w hw => by cases hw; rfl) (fun H => .bl _) (e1.trans (sd.trans (e3.trans e4))) (fun _ _ => ev_tc) _ fun a5 H5 e5 h5 => ⟨by show 5 ≤ sizeLine; decide, fun p hp => ?_⟩
        have sp := same_upd (o := HO.tup [V.non, .ref d, .ref a3, .ref a4, .ref a5]) hp
        refine q1 p _ _ ?_ (sd.trans (e3.trans (e4.trans (e5.trans sp)))) upd_same
        intro v hv
        have m : v = .non ∨ v = .ref d ∨ v = .ref a3 ∨ v = .ref a4 ∨ v = .ref a5 := by simpa using hv
        rcases m with rfl | rfl | rfl | rfl | rfl
        · exact .inl ⟨rfl, rfl⟩
        · exact .inr (.inl ⟨d, rfl, (e3.trans (e4.trans (e5.trans sp))) _ _ upd_same, rfl⟩)
        · exact .inr (.inr ⟨a3, _, rfl, (e4.trans (e5.trans sp)) _ _ h3, fun z _ => .inl ⟨_, rfl⟩, (cut _ fun n hn => by rw [okV_int, decide_eq_false (p := (99 : Int) < (n : Int)) (by omega), Bool.and_false]).symm⟩)
        · exact .inr (.inr ⟨a4, _, rfl, (e5.trans sp) _ _ h4, fun z _ => .inl ⟨_, rfl⟩, (cut _ fun n hn => by rw [okV_int, decide_eq_false (p := (0 : Int) ≤ -1) (by omega), Bool.false_and]).symm⟩)
        · exact .inr (.inr ⟨a5, _, rfl, sp _ _ h5, fun z _ => .inr ⟨_, rfl⟩, (cut _ fun n hn => rfl).symm⟩)
      · obtain ⟨x2, x3, x4, x5, rfl⟩ := ok
        have st := (r v hv).go e3
        refine ⟨_, rfl, _, rfl, _, _, rfl, .inl ⟨x, n, ks, y, rfl, nx.go (e1.trans (e2.trans e3)), sk, hy, .inl ⟨st, fun H' e => ?_⟩⟩⟩
        exact ⟨true, T.teS, fun _ a0 _ => ⟨⟨_, _, _, _, rfl⟩, e3.trans e⟩, fun q => Bool.noConfusion q⟩
      · exact s_ret ev_tc fun H' e => k H' (e1.trans (e2.trans e))
end
end Bc

namespace Bc
open PySem L2 PyProof.Rows StX
theorem ix_tupK {X : Cx} {K : PySem.W.Frag} (h : X.K = K) : IxR X (rIxT K) := by
  subst h
  exact ix_tup
theorem op_eqDX {X : Cx} {K : PySem.W.Frag} (h : X.K = K) (hu : X.A.units + 64 < cLine) : OpR X (compareOp .Eq) (rEqD K) := by
  subst h
  exact op_eqD hu
theorem op_repT1X {X : Cx} {K : PySem.W.Frag} (h : X.K = K) : OpR X (binaryOp .Mult) (rRepT1 K) := by
  subst h
  exact op_repT1
theorem sl_tupAX {X : Cx} {K : PySem.W.Frag} (h : X.K = K) : SlR X (rSlA K) := by
  subst h
  exact sl_tupA
theorem pe_fldX {X : Cx} {K : PySem.W.Frag} {e : Expr} {f : Str} {pos : Pos} {ta : TE} (h : X.K = K) (he : PE X e ta) (hb : attributeBase e f X.env (eval e X.env) = eval e X.env) : PE X (.Attribute e f pos) (tFld K ta f) := by
  subst h
  exact pe_fld he hb
theorem swL_true {elt : Expr} {gs : List Comprehension} {scope : Scope} {pos py : Pos} {y : Str} {l : Nat} {env : Env} (hk : env.scope.kind = .function) (hy : env.scope.names.lookup y = some .local) (hl : (py.line == pos.line) = true)
    (ha : (scope.names.any fun (n, k) => n == y && (k == .local || k == .cell)) = false) : swapsWith (.ListComp elt gs scope pos) (some (.Name y py)) l env = pure true := by
  have ky : env.kindOf y = some .local := hy; have hb : env.blockKind = .function := by unfold Env.blockKind; rw [hk]; rfl
  unfold swapsWith; simp only [hb, ky, ha, Expr.pos, hl]
  rfl
/-! ### rows that go on alike -/
theorem pre_tr {r : Rows} (h : 0 < r.2.length) (p m : Nat) : pre (tr r) p m = pre r p m := by
  unfold pre
  refine List.map_congr_left fun i _ => ?_
  rw [show Tidy.sq (tr r).1 (tr r).2 (p + i) = Tidy.sq r.1 r.2 (p + i) from (Tidy.shr_is (f := r.1) h).2.1 (p + i)]
theorem pre_st {r : Rows} (h : 0 < r.2.length) (p m : Nat) : pre r p m = pre (tr r) (tpl r p) m := by
  rw [← pre_tr h]
  unfold pre
  refine List.map_congr_left fun i _ => ?_
  show _ = (Tidy.sq (tr r).1 (tr r).2 (Tidy.st (tr r).1.length (tr r).2.length p + i)).getD []
  rw [Tidy.sq_st]
theorem pre_apart {r : Rows} (h : 0 < r.2.length) (hm : many r ≤ 40) {a b : Nat} (hab : a < b) (hb : b < many r) : pre (tr r) a 40 ≠ pre (tr r) b 40 := fun e => by
  refine Tidy.apart (Tidy.shr_is (f := r.1) h).1 hab hb hm fun i hi => ?_
  have e2 : (pre (tr r) a 40)[i]? = (pre (tr r) b 40)[i]? := by rw [e]
  unfold pre at e2
  rw [List.getElem?_map, List.getElem?_map, List.getElem?_range hi] at e2
  have e3 : (Tidy.sq (tr r).1 (tr r).2 (a + i)).getD [] = (Tidy.sq (tr r).1 (tr r).2 (b + i)).getD [] := Option.some.inj e2
  obtain ⟨x, hx⟩ := Tidy.sq_some (f := (tr r).1) (n := a + i) (many_tr h)
  obtain ⟨y, hy⟩ := Tidy.sq_some (f := (tr r).1) (n := b + i) (many_tr h)
  rw [hx, hy] at e3
  show Tidy.sq (tr r).1 (tr r).2 (a + i) = Tidy.sq (tr r).1 (tr r).2 (b + i)
  rw [hx, hy]
  exact congrArg some e3
theorem pre_iff {r : Rows} (h : 0 < r.2.length) (hm : many r ≤ 40) {j p : Nat} (hj : j < many r) : pre (tr r) j 40 = pre r p 40 ↔ tpl r p = j := by
  rw [pre_st h]
  have hp := tpl_lt h p
  constructor
  · intro e
    rcases Nat.lt_trichotomy j (tpl r p) with c | c | c
    · exact absurd e (pre_apart h hm c hp)
    · exact c.symm
    · exact absurd e.symm (pre_apart h hm c hj)
  · intro e
    rw [e]
theorem pre_iff2 {r : Rows} (h : 0 < r.2.length) (hm : many r ≤ 40) {j p : Nat} (hj : j < many r) : pre r j 40 = pre r p 40 ↔ tpl r p = j := by
  rw [← pre_tr h j]
  exact pre_iff h hm hj
def dL (r : Row) : PyData := .list (r.map dDrop)
theorem eqv_dL (a b : Row) : PyData.eqv (dL a) (dL b) = decide (a = b) := eqvAll_map eqv_drop a b
theorem dL_shaped {t : Row} (h : RowOk t) : SeqAt.shaped (dL t) = true := shaped_of (d := dL t) (n := 2) (lay_row (r := t) h) (Nat.succ_le_succ (depth_map fun d _ => depth_drop d))
theorem pre_ok {r : Rows} (h1 : RowOk r.1) (h2 : RowOk r.2) (p m : Nat) : RowOk (pre r p m) := fun d hd x hx => by
  obtain ⟨i, _, rfl⟩ := List.mem_map.mp hd
  cases hq : Tidy.sq r.1 r.2 (p + i) with
  | none => rw [hq] at hx; cases hx
  | some e =>
    rw [hq] at hx
    have hm : e ∈ r.1 ++ r.2 := List.mem_of_getElem? hq
    rcases List.mem_append.mp hm with z | z
    · exact h1 e z x hx
    · exact h2 e z x hx
/-- lists of lists of numbers -/
def dG (g : List (List Nat)) : PyData := .list (g.map fun l => .list (l.map fun p => .int (p : Nat)))
theorem lay_ints (l : List Nat) : (PyData.list (l.map fun p => .int (p : Nat))).canLay0 = true := lay_map fun _ _ => rfl
theorem lay_dG (g : List (List Nat)) : (dG g).canLay0 = true := lay_map fun l _ => lay_ints l
theorem depth_dG (g : List (List Nat)) : (dG g).depth ≤ 2 := Nat.succ_le_succ (depth_map fun l _ => Nat.succ_le_succ (depth_map fun _ _ => Nat.le_refl _))
theorem dG_shaped (g : List (List Nat)) : SeqAt.shaped (dG g) = true := shaped_of (n := 2) (lay_dG g) (depth_dG g)
def groups (r : Rows) (i : Nat) : List (List Nat) := (List.range (min i (many r))).map fun j => grp (tpl r) i j
theorem alk_dG {r : Rows} (h : 0 < r.2.length) : alk r = dG (groups r (r.1.length + r.2.length)) := by
  unfold alk dG groups
  rw [Nat.min_eq_right (many_le h), List.map_map]
  rfl
/-- the first of a group -/
theorem grp_head {r : Rows} (h : 0 < r.2.length) {i j : Nat} (hj : j < min i (many r)) : (grp (tpl r) i j)[0]? = some j := by
  induction i with
  | zero => rw [Nat.zero_min] at hj; omega
  | succ i ih =>
    rw [grp_succ]
    by_cases c : j < min i (many r)
    · have q := ih c
      by_cases e : tpl r i = j
      · rw [if_pos e]
        have hl : 0 < (grp (tpl r) i j).length := (List.getElem?_eq_some_iff.mp q).1
        rw [List.getElem?_append_left hl]
        exact q
      · rw [if_neg e]
        exact q
    · have e : j = i := by omega
      subst e
      have g0 : grp (tpl r) j j = [] := grp_nil fun p hp => by have := tpl_lt2 h p; omega
      rw [if_pos (tpl_id (by omega)), g0]
      rfl
/-! ### drawn knots, padded -/
theorem kd_of {R' : Nat → Rows → Prop} : ∀ ds : List (Str × PyData), (∀ (i : Nat) (d : Str × PyData), ds[i]? = some d → ∃ r, d.2 = dRows r ∧ R' i r) → ∃ ks : Knots, ds = kd ks ∧ ∀ i p, ks[i]? = some p → R' i p.2
  | [], _ => ⟨[], rfl, fun i p h => by simp at h⟩
  | (z, d) :: ds, h => by
    obtain ⟨r, h1, h2⟩ := h 0 _ rfl
    have h1 : d = dRows r := h1
    subst h1
    obtain ⟨ks, rfl, h3⟩ := kd_of (R' := fun i r => R' (i + 1) r) ds fun i d e => h (i + 1) d (by simpa using e)
    refine ⟨(z, r) :: ks, rfl, fun i p e => ?_⟩
    cases i with
    | zero => simp at e; subst e; exact h2
    | succ i => exact h3 i p (by simpa using e)
def PadK (pk ks : Knots) : Prop := ∀ (i : Nat) (p : Str × Rows), ks[i]? = some p → ∃ z pr, pk[i]? = some (z, pr) ∧ PadOk pr 5 p.2.1 p.2.2
theorem pad_at {pk ks : Knots} (hz : kn ks = kn pk) (h : PadK pk ks) {z : Str} {r : Rows} (hm : (z, r) ∈ ks) : ∃ pr, (z, pr) ∈ pk ∧ PadOk pr 5 r.1 r.2 := by
  obtain ⟨i, hi⟩ := List.mem_iff_getElem?.mp hm
  obtain ⟨z', pr, h1, h2⟩ := h i _ hi
  have e1 : (kn ks)[i]? = some z := by unfold kn; rw [List.getElem?_map, hi]; rfl
  have e2 : (kn pk)[i]? = some z' := by unfold kn; rw [List.getElem?_map, h1]; rfl
  rw [hz, e2] at e1
  have e3 : z' = z := Option.some.inj e1
  subst e3
  exact ⟨pr, List.mem_of_getElem? h1, h2⟩
theorem pad_sk {n : Nat} {pk ks : Knots} (s : SK n pk) (hz : kn ks = kn pk) (h : PadK pk ks) : SK n ks := by
  have g := s.g
  refine ⟨⟨g.pos, g.le, by rw [hz]; exact g.perm, fun p hp => ?_, fun j x r y h1 h2 h3 => ?_⟩, by rw [hz]; exact s.hkn⟩
  · obtain ⟨z, r⟩ := p
    obtain ⟨pr, hm, q⟩ := pad_at hz h hp
    have gr := g.rows _ hm
    have q1 := q.fl
    exact ⟨by show r.1.length ≤ 12; omega, q.t1, q.t12, fun d hd => (q.memF d hd).elim (gr.ok1 d) (gr.ok2 d), fun d hd => gr.ok2 d ((q.memT d).mp hd)⟩
  · obtain ⟨pr, hm, q⟩ := pad_at hz h h2
    exact (q.memT _).mpr (g.next j x pr y h1 hm h3)
theorem pad_tks {pk ks : Knots} {n : Nat} (s : SK n pk) (hz : kn ks = kn pk) (h : PadK pk ks) : tks ks = tks pk := by
  have hl : ks.length = pk.length := by
    have := congrArg List.length hz
    unfold kn at this
    rw [List.length_map, List.length_map] at this
    exact this
  refine List.ext_getElem? fun i => ?_
  unfold tks
  rw [List.getElem?_map, List.getElem?_map]
  by_cases hi : i < ks.length
  · have e := List.getElem?_eq_getElem hi
    obtain ⟨z', pr, h1, h2⟩ := h i _ e
    have e1 : (kn ks)[i]? = some ks[i].1 := by unfold kn; rw [List.getElem?_map, e]; rfl
    have e2 : (kn pk)[i]? = some z' := by unfold kn; rw [List.getElem?_map, h1]; rfl
    rw [hz, e2] at e1
    have e3 : z' = ks[i].1 := Option.some.inj e1
    rw [e, h1]
    have p1 : 0 < pr.2.length := (s.g.rows _ (List.mem_of_getElem? h1)).l2
    show some (ks[i].1, tr ks[i].2) = some (z', tr pr)
    rw [e3]
    have e4 : tr ks[i].2 = tr pr := Tidy.shr_eq (f := ks[i].2.1) (t := ks[i].2.2) (f' := pr.1) (t' := pr.2) h2.t1 p1 h2.sq
    rw [e4]
  · rw [List.getElem?_eq_none_iff.mpr (by omega), List.getElem?_eq_none_iff.mpr (by omega)]
theorem tks_tks {ks : Knots} {n : Nat} (s : SK n ks) : tks (tks ks) = tks ks := by
  unfold tks
  rw [List.map_map]
  refine List.map_congr_left fun p hp => ?_
  have e : tr (tr p.2) = tr p.2 := Tidy.shr_idem (f := p.2.1) (t := p.2.2) (s.g.rows _ hp).l2
  show (p.1, tr (tr p.2)) = (p.1, tr p.2)
  rw [e]
/-! ### nets alike -/
theorem eqNet_dec {n : Nat} {a b : Knots} {y : Str} (sa : SK n a) (sb : SK n b) (hy : y ∈ ab.take n) : eqNet (kd a) (id_ (is0 y)) ["o", "p"] (kd b) (id_ (is0 y)) ["o", "p"] = decide (a = b) := by
  by_cases e : a = b
  · subst e
    rw [eqNet_refl sa.g (gi_is0 sa.g.pos hy) go_op, decide_eq_true rfl]
  · rw [decide_eq_false e]
    refine eqNet_k ?_
    have hl : a.length = b.length := by rw [sa.len, sb.len]
    have hd : ∃ i : Nat, a[i]? ≠ b[i]? := by
      rcases Classical.em (∃ i : Nat, a[i]? ≠ b[i]?) with h | h
      · exact h
      · exact absurd (List.ext_getElem? fun i => Classical.byContradiction fun c => h ⟨i, c⟩) e
    obtain ⟨i, hi⟩ := hd
    have la : i < a.length := by
      rcases Nat.lt_or_ge i a.length with c | c
      · exact c
      · exact absurd (by rw [List.getElem?_eq_none_iff.mpr c, List.getElem?_eq_none_iff.mpr (by omega)]) hi
    have lb : i < b.length := by omega
    have qa := List.getElem?_eq_getElem la
    have qb := List.getElem?_eq_getElem lb
    have n1 : (kn a)[i]? = some a[i].1 := by unfold kn; rw [List.getElem?_map, qa]; rfl
    have n2 : (kn b)[i]? = some b[i].1 := by unfold kn; rw [List.getElem?_map, qb]; rfl
    rw [sa.hkn, ← sb.hkn, n2] at n1
    have en : b[i].1 = a[i].1 := Option.some.inj n1
    refine eqDK_ne (k := a[i].1) (d := dRows a[i].2) (List.mem_map.mpr ⟨a[i], List.getElem_mem la, rfl⟩) fun d hd => ?_
    rw [← en, kd_get sb.nd (show (b[i].1, b[i].2) ∈ b from List.getElem_mem lb)] at hd
    cases hd
    rw [eqv_rows]
    refine decide_eq_false fun er => hi ?_
    rw [qa, qb]
    refine congrArg some (Prod.ext en.symm er)
end Bc

/-! what the law's expressions give -/
namespace Bc
open PySem L2 PyProof.Rows StX
def ErN (te : TE) (σ : L2.St) (H : Hp) (C : Addr) (ks : Knots) (y : Str) : Prop := ∀ Q : VK, (∀ x H', Same H H' → NetS H' C x ks y → Q (.ref x) H') → te σ H Q
section
variable {K : PySem.W.Frag} {σ : L2.St} {H : Hp} {ta tb te tk tv tl td ty t1 t2 t3 : TE} {t : TA} {D : Ends} {u : TS} {C B : Addr} {E : XK}
theorem er_var {ks : Knots} {y : Str} {x : Addr} (h : Ev te σ H (.ref x)) (n : NetS H C x ks y) : ErN te σ H C ks y := fun Q q => h _ fun H' e => q x H' e (n.go e)
theorem er_neG {n : Nat} {k1 k2 : Knots} {y : Str} (s1 : SK n k1) (s2 : SK n k2) (hy : y ∈ ab.take n) (ha : ErN ta σ H C k1 y) (hb : ∀ H', Same H H' → ErN tb σ H' C k2 y) : Ev (tOp (rNeO C (spEq C) E) ta tb) σ H (.bl (!decide (k1 = k2))) := fun Q q => ha _ fun x H1 e1 n1 => hb H1 e1 _ fun y' H2 e2 n2 => by
  have n1' := n1.go e2
  obtain ⟨dx, fs, hx⟩ := n1'.ins
  obtain ⟨dy, gs, hy'⟩ := n2.ins
  exact ⟨x, y', dx, dy, fs, gs, rfl, rfl, hx, hy', .inl ⟨x, y', _, _, _, _, _, _, rfl, n1', n2, s1.shp hy, s2.shp hy, fun H' e' => ⟨_, rfl, by rw [eqNet_dec s1 s2 hy]; exact q H' (e1.trans (e2.trans e'))⟩⟩⟩
theorem er_eqG {n : Nat} {k1 k2 : Knots} {y : Str} (s1 : SK n k1) (s2 : SK n k2) (hy : y ∈ ab.take n) (ha : ErN ta σ H C k1 y) (hb : ∀ H', Same H H' → ErN tb σ H' C k2 y) : Ev (tOp (rEqO K C (spEq C) E) ta tb) σ H (.bl (decide (k1 = k2))) := fun Q q => ha _ fun x H1 e1 n1 => hb H1 e1 _ fun y' H2 e2 n2 => by
  have n1' := n1.go e2
  obtain ⟨dx, fs, hx⟩ := n1'.ins
  obtain ⟨dy, gs, hy'⟩ := n2.ins
  exact ⟨x, dx, fs, rfl, hx, .ins hy', .inl ⟨x, y', _, _, _, _, _, _, rfl, n1', n2, s1.shp hy, s2.shp hy, fun H' e' => ⟨_, rfl, by rw [eqNet_dec s1 s2 hy]; exact q H' (e1.trans (e2.trans e'))⟩⟩⟩
theorem er_tid {n : Nat} {ks : Knots} {y : Str} (sk : SK n ks) (hy : y ∈ ab.take n) (h : ErN te σ H C ks y) : ErN (tCall (spTidied C B) [] E (tCons te tNil)) σ H C (tks ks) y := fun Q q => h _ fun x H1 e1 nx => ⟨_, rfl, .inl ⟨x, n, ks, y, rfl, nx, sk, hy, fun x' H' _ e nn => q x' H' (e1.trans e) nn.net⟩⟩
theorem ev_istidy {n : Nat} {ks : Knots} {y : Str} (sk : SK n ks) (hy : y ∈ ab.take n) (h : ErN te σ H C ks y) : Ev (tCall (spIsTidy C B) [] E (tCons te tNil)) σ H (.bl (decide (tks ks = ks))) := fun Q q => h _ fun x H1 e1 nx => ⟨_, rfl, .inl ⟨x, n, ks, y, rfl, nx, sk, hy, fun H' e => by
  have z : tB ks y = decide (tks ks = ks) := eqNet_dec sk.tidy sk hy
  rw [z]
  exact q H' (e1.trans e)⟩⟩
theorem ev_neVV {a b : Addr} {k1 k2 : List (Key × V)} {d1 d2 : List (Str × PyData)} (ha : Ev ta σ H (.ref a)) (hb : ∀ H', Same H H' → Ev tb σ H' (.ref b)) (h1 : H a = some (.dK k1)) (h2 : H b = some (.dK k2)) (g1 : Dk H k1 d1) (g2 : Dk H k2 d2) (s1 : ∀ p ∈ d1, SeqAt.shaped p.2 = true) (s2 : ∀ p ∈ d2, SeqAt.shaped p.2 = true) :
    Ev (tOp rNeDK ta tb) σ H (.bl (!eqDK d1 d2)) := fun Q q => ha _ fun H1 e1 => hb H1 e1 _ fun H2 e2 => ⟨a, b, k1, k2, d1, d2, rfl, rfl, (e1.trans e2) _ _ h1, (e1.trans e2) _ _ h2, g1.go (e1.trans e2), g2.go (e1.trans e2), s1, s2, q H2 (e1.trans e2)⟩
/-- a dict of rows -/
structure KD (H : Hp) (a : Addr) (ks : Knots) : Prop where
  ex : ∃ kv, H a = some (.dK kv) ∧ Dk H kv (kd ks)
theorem KD.go {H H' : Hp} {a : Addr} {ks : Knots} (h : KD H a ks) (e : Same H H') : KD H' a ks := by
  obtain ⟨kv, h1, h2⟩ := h.ex
  exact ⟨kv, e _ _ h1, h2.go e⟩
theorem evd_row {ks : Knots} {a : Addr} {z : Str} {r : Rows} (h : KD H a ks) (nd : (kn ks).Nodup) (hm : (z, r) ∈ ks) (ha : Ev td σ H (.ref a)) (hz : ∀ H', Same H H' → Ev ty σ H' (.str z)) : EvD (tDGet td ty) σ H (dRows r) := by
  obtain ⟨kv, h1, h2⟩ := h.ex
  obtain ⟨v, hv, dv⟩ := h2.get (kd_get nd hm)
  exact evd_of (ev_dget (k := .inr z) ha hz h1 hv) dv
theorem ev_lenR0 {r : Rows} (h : EvD te σ H (dRows r)) : Ev (tCB (rLen K) (tCons (tOp (rIxT K) te (tC (.int 0))) tNil)) σ H (.int (r.1.length : Nat)) := by
  have z := ev_lenTD (K := K) (evd_ixT (K := K) (i := 0) (d := dRow r.1) h (fun _ _ => ev_tc) rfl)
  rw [map_drop_len] at z
  exact z
theorem ev_lenR1 {r : Rows} (h : EvD te σ H (dRows r)) : Ev (tCB (rLen K) (tCons (tOp (rIxT K) te (tC (.int 1))) tNil)) σ H (.int (r.2.length : Nat)) := by
  have z := ev_lenTD (K := K) (evd_ixT (K := K) (i := 1) (d := dRow r.2) h (fun _ _ => ev_tc) rfl)
  rw [map_drop_len] at z
  exact z
theorem ev_size {r : Rows} (h : ∀ H', Same H H' → EvD te σ H' (dRows r)) : Ev (tOp (rI0 fun i j => .int (i + j)) (tCB (rLen K) (tCons (tOp (rIxT K) te (tC (.int 0))) tNil)) (tCB (rLen K) (tCons (tOp (rIxT K) te (tC (.int 1))) tNil))) σ H (.int ((r.1.length + r.2.length : Nat) : Int)) := by
  have e3 : ((r.1.length + r.2.length : Nat) : Int) = ((r.1.length : Nat) : Int) + ((r.2.length : Nat) : Int) := by omega
  rw [e3]
  exact ev_I0 (g := fun i j => .int (i + j)) (ev_lenR0 (h H (Same.refl _))) fun H' e => ev_lenR1 (h H' e)
theorem el_goes {r : Rows} {p m : Nat} (h1 : EvD t1 σ H (dRows r)) (h2 : ∀ H', Same H H' → Ev t2 σ H' (.int (p : Nat))) (h3 : ∀ H', Same H H' → Ev t3 σ H' (.int (m : Nat))) (l1 : 1 ≤ r.2.length) (f60 : r.1.length ≤ 60) (t60 : r.2.length ≤ 60) (hp : p < r.1.length + r.2.length) (hm : m ≤ 1000)
    (Q : VK) (q : ∀ l xs H', H l = none → Same H H' → H' l = some (.lst xs) → Dts H' xs ((pre r p m).map dDrop) → Q (.ref l) H') : tCall spGoes [] E (tCons t1 (tCons t2 (tCons t3 tNil))) σ H Q :=
  h1 _ fun v H1 e1 hv => h2 H1 e1 _ fun H2 e2 => h3 H2 (e1.trans e2) _ fun H3 e3 => ⟨v, r, p, m, rfl, hv.go (e2.trans e3), l1, f60, t60, hp, hm, fun l xs H' hl e hx hd => q l xs H' ((e1.trans (e2.trans e3)).free hl) ((e1.trans (e2.trans e3)).trans e) hx hd⟩
theorem evd_goes {r : Rows} {p m : Nat} (h1 : EvD t1 σ H (dRows r)) (h2 : ∀ H', Same H H' → Ev t2 σ H' (.int (p : Nat))) (h3 : ∀ H', Same H H' → Ev t3 σ H' (.int (m : Nat))) (l1 : 1 ≤ r.2.length) (f60 : r.1.length ≤ 60) (t60 : r.2.length ≤ 60) (hp : p < r.1.length + r.2.length) (hm : m ≤ 1000) :
    EvD (tCall spGoes [] E (tCons t1 (tCons t2 (tCons t3 tNil)))) σ H (dL (pre r p m)) := fun Q q => el_goes h1 h2 h3 l1 f60 t60 hp hm Q fun l xs H' _ e hx hd => q _ H' e (.lst hx hd)
/-- what of f is kept -/
theorem lc_filt {J : It} {n : Nat} {G : Hp → Prop} {Y : Nat → Hp → V → Hp → Prop} (w : Walk J n G Y) {tt : TT} {te : TE} {j : Nat} {vs : List Nat} {H1 : Hp} {Dd : Addr} {Qd : Hp → Prop} (f : Nat → V) (keep : Nat → Bool) (hD : H1 Dd = none) (hn : n < 100000) (hG : ∀ H, Same H1 H → G H) (hw : ∀ x, wipe ((wipe σ vs).set j (some x)) vs = wipe σ vs)
    (hs : ∀ i x H H', i < n → Same H1 H → Y i H x H' → Same H H' ∧ EvB tt ((wipe σ vs).set j (some x)) H' (keep i) ∧ ∀ H2, Same H' H2 → Ev te ((wipe σ vs).set j (some x)) H2 (f i))
    (hd : ∀ H, Same H1 H → H Dd = some (.lst (((List.range n).filter keep).map f)) → Qd H) : ∃ W : Nat → Nat → Hp → Prop, (∃ m, W 0 m (upd H1 Dd (.lst []))) ∧ ∀ i m H, W i m H →
      (J.stop i H ∧ Qd H) ∨ (J.go i H ∧ ∃ Nx : Hp → Prop, (∀ H', Nx H' → ∃ m', m' < m ∧ W (i + 1) m' H') ∧ ∀ x H', J.yld i H x H' → gName j x (wipe σ vs) H' fun σ2 H2 => wipe σ2 vs = wipe σ vs ∧ tt σ2 H2 fun b H3 => if b = true then te σ2 H3 fun y H4 => ∃ acc, H4 Dd = some (.lst acc) ∧ acc.length < sizeLine ∧ Nx (upd H4 Dd (.lst (acc ++ [y]))) else Nx H3) := by
  refine lc_rel w (fun i acc _ => acc = ((List.range i).filter keep).map f) (fun _ _ _ _ _ h => h) rfl hD hn hG (fun i x H2 H3 acc hi e2 ha inv y Q1 Q2 q1 q2 => ?_) (fun ys H2 inv e2 hy => hd H2 e2 (by rw [hy, inv]))
  obtain ⟨e3, ht, he⟩ := hs i x H2 H3 hi e2 y
  refine ⟨hw x, ?_⟩
  refine ht _ fun H4 e4 => ?_
  cases hk : keep i with
  | true =>
    refine iteT (he H4 e4 _ fun H5 e5 => q1 _ _ (e3.trans (e4.trans e5)) ?_)
    rw [inv, List.range_succ, List.filter_append, List.map_append, List.filter_cons_of_pos hk]
    rfl
  | false =>
    refine iteF (q2 _ (e3.trans e4) ?_)
    rw [inv, List.range_succ, List.filter_append, List.map_append, List.filter_cons_of_neg (by rw [hk]; decide)]
    simp
/-- [x for x in l if ..] -/
theorem el_filt {tt : TT} {xs : List V} {keep : Nat → Bool} {a : Addr} {j : Nat} (h : Ev tl σ H (.ref a)) (ha : H a = some (.lst xs)) (hl : xs.length < 100000) (hw : ∀ x, wipe ((wipe σ [j]).set j (some x)) [j] = wipe σ [j]) (hg : ∀ x, ((wipe σ [j]).set j (some x))[j]? = some (some x))
    (ht : ∀ i x H', xs[i]? = some x → Same H H' → EvB tt ((wipe σ [j]).set j (some x)) H' (keep i)) : EvL (tLc (iList K tl) (gName j) tt (tVar j) [j]) σ H (((List.range xs.length).filter keep).map fun i => (xs[i]?).getD .non) := fun Q q =>
  h _ fun H1 e1 => ⟨a, rfl, ⟨_, SqL.of (e1 _ _ ha)⟩, fun Dd hD => by
    refine lc_filt (walk_list (K := K) (a := a) (xs := xs)) (fun i => (xs[i]?).getD .non) keep hD hl (fun H2 e2 => SqL.of ((e1.trans e2) _ _ ha)) hw (fun i x H2 H3 hi e2 y => ?_) fun H2 e2 hx => q Dd H2 (e1.free hD) (e1.trans e2) hx
    obtain ⟨rfl, hy⟩ := y
    refine ⟨Same.refl _, ht i x _ hy (e1.trans e2), fun H4 _ => ?_⟩
    rw [hy]
    exact ev_tv (hg x)⟩
/-- [i for i in range(n) if ..] -/
theorem el_filtR {tt : TT} {n : Nat} {keep : Nat → Bool} {j : Nat} (h : Ev tb σ H (.int (n : Nat))) (hl : n < 100000) (hw : ∀ x, wipe ((wipe σ [j]).set j (some x)) [j] = wipe σ [j]) (hg : ∀ x, ((wipe σ [j]).set j (some x))[j]? = some (some x))
    (ht : ∀ (i : Nat) H', i < n → Same H H' → EvB tt ((wipe σ [j]).set j (some (.int (i : Nat)))) H' (keep i)) : EvL (tLc (iRng1 (tCons tb tNil)) (gName j) tt (tVar j) [j]) σ H (((List.range n).filter keep).map fun i => .int (i : Nat)) := fun Q q =>
  h _ fun H1 e1 => ⟨(n : Nat), rfl, by omega, by omega, by
    have e : (((n : Nat) : Int)).toNat = n := by omega
    rw [e]
    intro Dd hD
    refine lc_filt (walk_range (lo := 0) (n := n)) (fun i => .int (i : Nat)) keep hD hl (fun H2 e2 => True.intro) hw (fun i x H2 H3 hi e2 y => ?_) fun H2 e2 hx => q Dd H2 (e1.free hD) (e1.trans e2) hx
    obtain ⟨rfl, hy⟩ := y
    have e0 : (0 : Int) + ((i : Nat) : Int) = ((i : Nat) : Int) := by omega
    replace hy : x = V.int ((0 : Int) + ((i : Nat) : Int)) := hy
    rw [e0] at hy
    subst hy
    exact ⟨Same.refl _, ht i _ hi (e1.trans e2), fun H4 _ => ev_tv (hg _)⟩⟩
/-- [goes on from i for i in range(n)] -/
theorem evd_rowsL {r : Rows} {n m : Nat} {j : Nat} (h : Ev tb σ H (.int (n : Nat))) (hl : n < 100000) (hw : ∀ x, wipe ((wipe σ [j]).set j (some x)) [j] = wipe σ [j])
    (ht : ∀ (i : Nat) H', i < n → Same H H' → ∀ Q : VK, (∀ l xs H2, H' l = none → Same H' H2 → H2 l = some (.lst xs) → Dts H2 xs ((pre r i m).map dDrop) → Q (.ref l) H2) → te ((wipe σ [j]).set j (some (.int (i : Nat)))) H' Q) :
    EvD (tLc (iRng1 (tCons tb tNil)) (gName j) tYes te [j]) σ H (.list ((List.range n).map fun i => dL (pre r i m))) := fun Q q =>
  h _ fun H1 e1 => ⟨(n : Nat), rfl, by omega, by omega, by
    have e : (((n : Nat) : Int)).toNat = n := by omega
    rw [e]
    intro Dd hD
    refine lc_rel (walk_range (lo := 0) (n := n)) (fun i acc H => Dts H acc ((List.range i).map fun i => dL (pre r i m))) (fun _ _ _ _ e h => h.go e) .nil hD hl (fun H2 e2 => True.intro) (fun i x H2 H3 acc hi e2 ha inv y Q1 Q2 q1 _ => ?_) fun ys H2 inv e2 hx => q _ H2 (e1.trans e2) (.lst hx (inv.go hide_same))
    obtain ⟨rfl, rfl⟩ := y
    have e0 : (0 : Int) + ((i : Nat) : Int) = ((i : Nat) : Int) := by omega
    refine ⟨hw _, ?_⟩
    show te ((wipe σ [j]).set j (some (V.int ((0 : Int) + ((i : Nat) : Int))))) _ _
    rw [e0]
    refine ht i _ hi (e1.trans e2) _ fun l xs H4 hl0 e4 hx hd => q1 _ _ e4 ?_
    have hD4 := e4 _ _ ha
    have lD : l ≠ Dd := fun z => by rw [z, ha] at hl0; cases hl0
    rw [List.range_succ, List.map_append]
    exact (inv.go (hide_mono e4)).append (.cons (.lst (by rw [hide_ne lD]; exact hx) (hd.drops_ts (tsm_hide hD4))) .nil)⟩
theorem ev_any {bs : List Bool} (h : ∀ Q : VK, (∀ p H', Same H H' → H' p = some (.lst (bs.map V.bl)) → Q (.ref p) H') → tl σ H Q) : Ev (tCB (rAny K) (tCons tl tNil)) σ H (.bl (bs.any id)) := fun Q q => h _ fun p H1 e1 hx => ⟨p, bs, rfl, SqL.of hx, q H1 e1⟩
/-- [test for i in range(a, b)], none of them true -/
theorem el_none {n hi j : Nat} (ha : Ev ta σ H (.int 1)) (hb : ∀ H', Same H H' → Ev tb σ H' (.int (hi : Nat))) (hn : 1 + n = hi) (hl : hi ≤ 100) (hw : ∀ x, wipe ((wipe σ [j]).set j (some x)) [j] = wipe σ [j])
    (ht : ∀ (i : Nat) H', i < n → Same H H' → Ev te ((wipe σ [j]).set j (some (.int ((1 + i : Nat) : Int)))) H' (.bl false)) (Q : VK) (q : ∀ p H', Same H H' → H' p = some (.lst ((List.replicate n false).map V.bl)) → Q (.ref p) H') : tLc (iRng2 (tCons ta (tCons tb tNil))) (gName j) tYes te [j] σ H Q :=
  ha _ fun H1 e1 => hb H1 e1 _ fun H2 e2 => ⟨1, (hi : Nat), rfl, by omega, by
    have e : (((hi : Nat) : Int) - 1).toNat = n := by omega
    rw [e]
    intro Dd hD
    refine lc_vals (walk_range (lo := 1) (n := n)) (fun _ => .bl false) hD (by omega) (fun H2 e2 => True.intro) hw (fun i x H3 H4 hi' e3 y => ?_) fun H3 e3 hx => q Dd H3 (e1.trans (e2.trans e3)) (by
      rw [hx]
      congr 2
      rw [List.map_replicate]
      refine List.ext_getElem? fun i => ?_
      rw [List.getElem?_map, List.getElem?_replicate]
      by_cases c : i < n
      · rw [List.getElem?_range c, if_pos c]
        rfl
      · rw [List.getElem?_eq_none_iff.mpr (by rw [List.length_range]; omega), if_neg c]
        rfl)
    obtain ⟨rfl, hy⟩ := y
    have e0 : (1 : Int) + ((i : Nat) : Int) = ((1 + i : Nat) : Int) := by omega
    replace hy : x = V.int ((1 : Int) + ((i : Nat) : Int)) := hy
    rw [e0] at hy
    subst hy
    exact ⟨Same.refl _, ht i _ hi' (e1.trans (e2.trans e3))⟩⟩
end
end Bc

namespace Bc
open PySem L2 PyProof.Rows StX
section
variable {K : PySem.W.Frag} {σ : L2.St} {H : Hp} {ta tb te tk tv tl td ty t1 t2 t3 : TE} {t : TA} {D : Ends} {u : TS} {C B : Addr} {E : XK}
theorem evd_ofL {xs : List V} {ds : List PyData} (h : EvL te σ H xs) (hd : ∀ H', Dts H' xs ds) : EvD te σ H (.list ds) := fun Q q => h _ fun p H' _ e hx => q _ H' e (.lst hx (hd H'))
theorem q_asgKR {i : Nat} {zs : List Str} {R : Nat → PyData → Prop} (h : EvKR te σ H zs R) (k : ∀ p H' kvs ds, H p = none → Same H H' → H' p = some (.dK kvs) → Dk H' kvs ds → ds.map (fun p => p.1) = zs → (∀ i d, ds[i]? = some d → R i d.2) → u D (σ.set i (some (.ref p))) H') : tSeq (tAsg te (gName i)) u D σ H := h _ k
/-- for x in l, a list that stays -/
theorem q_forLV {tb : TS} {j : Nat} {a : Addr} {xs : List V} (h : Ev tl σ H (.ref a)) (ha : H a = some (.lst xs)) (Pv : Nat → L2.St → Hp → Prop) (h0 : ∀ H', Same H H' → Pv 0 σ H') (hS : ∀ i σ' H', Pv i σ' H' → Same H H')
    (hs : ∀ i x σ' H' bk, xs[i]? = some x → Pv i σ' H' → tb { D with nx := Pv (i + 1), ct := Pv (i + 1), bk := bk } (σ'.set j (some x)) H') (hd : ∀ σ' H', Pv xs.length σ' H' → u D σ' H') : tSeq (tFor (iList K tl) (gName j) tb) u D σ H :=
  h _ fun H1 e1 => ⟨a, rfl, ⟨xs, SqL.of (e1 _ _ ha)⟩, for_it (walk_list (K := K) (a := a) (xs := xs)) Pv (h0 H1 e1) (fun i σ' H' _ q => SqL.of (hS i σ' H' q _ _ ha)) (fun i x σ' H2 H3 hi q y => by
    obtain ⟨rfl, hy⟩ := y
    exact hs i x σ' _ _ hy q) hd⟩
theorem s_forLV {tb : TS} {j : Nat} {a : Addr} {xs : List V} (h : Ev tl σ H (.ref a)) (ha : H a = some (.lst xs)) (Pv : Nat → L2.St → Hp → Prop) (h0 : ∀ H', Same H H' → Pv 0 σ H') (hS : ∀ i σ' H', Pv i σ' H' → Same H H')
    (hs : ∀ i x σ' H' bk, xs[i]? = some x → Pv i σ' H' → tb { D with nx := Pv (i + 1), ct := Pv (i + 1), bk := bk } (σ'.set j (some x)) H') (hd : ∀ σ' H', Pv xs.length σ' H' → D.nx σ' H') : tFor (iList K tl) (gName j) tb D σ H :=
  h _ fun H1 e1 => ⟨a, rfl, ⟨xs, SqL.of (e1 _ _ ha)⟩, for_it (walk_list (K := K) (a := a) (xs := xs)) Pv (h0 H1 e1) (fun i σ' H' _ q => SqL.of (hS i σ' H' q _ _ ha)) (fun i x σ' H2 H3 hi q y => by
    obtain ⟨rfl, hy⟩ := y
    exact hs i x σ' _ _ hy q) hd⟩
theorem er_mk {n : Nat} {ks : Knots} {y : Str} {a b : Addr} (sk : SK n ks) (hy : y ∈ ab.take n) {o1 o2 : Str} (hos : ([o1, o2] : List Str) = (["o", "p"] : List Str) ∨ ([o1, o2] : List Str) = (["p", "o"] : List Str)) (ha : Ev ta σ H (.ref a)) (hb : ∀ H', Same H H' → Ev tb σ H' (.ref b)) (ab_ : a ≠ b) (hk : KD H a ks) (hi : H b = some (.dK (insD y))) :
    ErN (tMake C (spInit C) [] E (tCons ta (tCons tb (tCons (tLst (tCons (tC (.str o1)) (tCons (tC (.str o2)) tNil))) tNil)))) σ H C ks y := fun Q q =>
  er_netS sk hy hos (fun Q2 q2 => ha _ fun H1 e1 => hb H1 e1 _ fun H2 e2 => by
    refine el_strs2 _ fun c H3 _ e3 hc => ?_
    have e := e1.trans (e2.trans e3)
    obtain ⟨kv, k1, k2⟩ := hk.ex
    exact q2 a b c kv (insD y) H3 e ab_ (e _ _ k1) (k2.go e) (e _ _ hi) dk_is0 (.inl hc)) Q fun x H' _ e nn => q x H' e nn.net
theorem st_of {H : Hp} : ∀ {kvs : List (Key × V)} {ds : List (Str × PyData)} {ks : Knots}, Dk H kvs ds → ds.map (fun p => p.1) = kn ks → (∀ (i : Nat) (d : Str × PyData), ds[i]? = some d → ∃ g : Nat, d.2 = .int (g : Nat) ∧ ∃ p, ks[i]? = some p ∧ g < p.2.1.length + p.2.2.length) → (kn ks).Nodup →
    ∃ g : Str → Nat, kvs = stD ks (fun z => .int (g z : Nat)) ∧ ∀ p ∈ ks, g p.1 < p.2.1.length + p.2.2.length
  | _, _, [], .nil, _, _, _ => ⟨fun _ => 0, rfl, fun p h => absurd h (by simp)⟩
  | _, _, (z, r) :: ks, .cons (v := v) (k := k) (d := d) h1 h2, e, hp, nd => by
    have e1 : k = z := by
      have := congrArg List.head? e
      exact Option.some.inj this
    subst e1
    have e2 := congrArg List.tail e
    have nd' : (kn ks).Nodup := (List.nodup_cons.mp nd).2
    have nin : k ∉ kn ks := (List.nodup_cons.mp nd).1
    obtain ⟨g, hg, hl⟩ := st_of (ks := ks) h2 e2 (fun i d hd => hp (i + 1) d (by simpa using hd)) nd'
    obtain ⟨g0, q1, p, q2, q3⟩ := hp 0 _ rfl
    have q1 : d = .int (g0 : Nat) := q1
    subst q1
    have q2 : some (k, r) = some p := q2
    cases q2
    have hv : v = .int (g0 : Nat) := by cases h1; rfl
    subst hv
    refine ⟨fun z => if z = k then g0 else g z, ?_, fun p hp' => ?_⟩
    · rw [hg]
      have a1 : (if k = k then g0 else g k) = g0 := if_pos rfl
      show _ = ((Sum.inr k : Key), V.int ((if k = k then g0 else g k : Nat) : Int)) :: _
      rw [a1]
      refine congrArg _ (List.map_congr_left fun z hz => ?_)
      have ne : z ≠ k := fun e => nin (e ▸ hz)
      show ((Sum.inr z : Key), V.int ((g z : Nat) : Int)) = (Sum.inr z, V.int ((if z = k then g0 else g z : Nat) : Int))
      rw [if_neg ne]
    · rcases List.mem_cons.mp hp' with rfl | hm
      · show (if k = k then g0 else g k) < _
        rw [if_pos rfl]
        exact q3
      · have ne : p.1 ≠ k := fun e => nin (e ▸ List.mem_map.mpr ⟨p, hm, rfl⟩)
        show (if p.1 = k then g0 else g p.1) < _
        rw [if_neg ne]
        exact hl p hm
theorem filt_one (n c : Nat) : (List.range n).filter (fun k => decide (c = k)) = if c < n then [c] else [] := by
  induction n with
  | zero => rfl
  | succ n ih =>
    rw [List.range_succ, List.filter_append, ih]
    by_cases h : c = n
    · subst h
      rw [if_neg (by omega), if_pos (by omega), List.filter_cons_of_pos (by simp)]
      rfl
    · rw [List.filter_cons_of_neg (by simpa using h)]
      by_cases h2 : c < n
      · rw [if_pos h2, if_pos (by omega)]
        rfl
      · rw [if_neg h2, if_neg (by omega)]
        rfl
/-- the state of the law's own loop -/
def InvD (H0 : Hp) (A : Addr) (r : Rows) (i : Nat) (H' : Hp) : Prop := Same H0 H' ∧ ∃ L : Nat → Addr, (∀ j, j < min i (many r) → H0 (L j) = none ∧ L j ≠ A ∧ H' (L j) = some (.lst ((grp (tpl r) i j).map fun p => V.int (p : Nat)))) ∧ (∀ j j', j < min i (many r) → j' < min i (many r) → L j = L j' → j = j') ∧
  H' A = some (.lst ((List.range (min i (many r))).map fun j => V.ref (L j)))
theorem InvD.data {H0 H' : Hp} {A : Addr} {r : Rows} {i : Nat} (h : InvD H0 A r i H') : Dt H' (.ref A) (dG (groups r i)) := by
  obtain ⟨_, L, h2, _, h4⟩ := h
  refine .lst h4 ?_
  unfold groups
  rw [List.map_map]
  exact dts_lists L (fun j => grp (tpl r) i j) _ fun j hj => (h2 j (List.mem_range.mp hj)).2.2
theorem InvD.old {H0 H1 : Hp} {A : Addr} {r : Rows} {i : Nat} (h1 : 0 < r.2.length) (hi : InvD H0 A r i H1) (c : tpl r i < min i (many r)) (hA : H0 A = none) :
    ∃ l, (∃ L : Nat → Addr, H1 A = some (.lst ((List.range (min i (many r))).map fun j => V.ref (L j))) ∧ l = L (tpl r i)) ∧ H1 l = some (.lst ((grp (tpl r) i (tpl r i)).map fun p => V.int (p : Nat))) ∧ ∀ H2, Same H1 H2 → InvD H0 A r (i + 1) (upd H2 l (.lst ((grp (tpl r) i (tpl r i)).map (fun p => V.int (p : Nat)) ++ [V.int (i : Nat)]))) := by
  obtain ⟨e, L, p2, p3, p4⟩ := hi
  have hge : many r ≤ i := by
    rcases Nat.lt_or_ge i (many r) with z | z
    · rw [tpl_id z, Nat.min_eq_left (Nat.le_of_lt z)] at c
      omega
    · exact z
  have mi : min (i + 1) (many r) = min i (many r) := by omega
  obtain ⟨q1, q2, q3⟩ := p2 _ c
  refine ⟨_, ⟨L, p4, rfl⟩, q3, fun H2 e2 => ⟨Same.mut (e.trans e2) q1, L, fun j hj => ?_, fun j j' hj hj' => ?_, ?_⟩⟩
  · rw [mi] at hj
    obtain ⟨w1, w2, w3⟩ := p2 _ hj
    refine ⟨w1, w2, ?_⟩
    rw [grp_succ]
    by_cases ej : tpl r i = j
    · subst ej
      rw [if_pos rfl, List.map_append, upd_same]
      rfl
    · rw [if_neg ej, upd_ne (fun e => ej (p3 _ _ c hj e.symm))]
      exact e2 _ _ w3
  · rw [mi] at hj hj'
    exact p3 _ _ hj hj'
  · rw [mi, upd_ne q2.symm]
    exact e2 _ _ p4
theorem InvD.new {H0 H1 : Hp} {A : Addr} {r : Rows} {i : Nat} (h1 : 0 < r.2.length) (hi : InvD H0 A r i H1) (c : ¬ tpl r i < min i (many r)) (hA : H0 A = none) :
    ∃ xs, H1 A = some (.lst xs) ∧ xs.length = i ∧ ∀ H2 l, Same H1 H2 → H1 l = none → H2 l = some (.lst [V.int (i : Nat)]) → InvD H0 A r (i + 1) (upd H2 A (.lst (xs ++ [V.ref l]))) := by
  obtain ⟨e, L, p2, p3, p4⟩ := hi
  have him : i < many r := by
    rcases Nat.lt_or_ge i (many r) with z | z
    · exact z
    · have := tpl_lt h1 i
      omega
  have eti := tpl_id him
  have mi : min i (many r) = i := by omega
  have mi2 : min (i + 1) (many r) = i + 1 := by omega
  rw [mi] at p2 p3 p4
  refine ⟨_, p4, by rw [List.length_map, List.length_range], fun H2 l e2 hl hx => ?_⟩
  have lA : l ≠ A := fun z => by rw [z, p4] at hl; cases hl
  have hl0 : H0 l = none := e.free hl
  refine ⟨Same.mut (e.trans e2) hA, fun j => if j = i then l else L j, fun j hj => ?_, fun j j' hj hj' ee => ?_, ?_⟩
  · rw [mi2] at hj
    show (H0 (if j = i then l else L j) = none) ∧ ((if j = i then l else L j) ≠ A) ∧ (L2.upd _ A _ (if j = i then l else L j) = _)
    by_cases ej : j = i
    · subst ej
      have g0 : grp (tpl r) j j = [] := grp_nil fun p hp => by have := tpl_lt2 h1 p; omega
      rw [if_pos rfl]
      refine ⟨hl0, lA, ?_⟩
      rw [upd_ne lA, grp_succ, if_pos eti, g0]
      exact hx
    · rw [if_neg ej]
      obtain ⟨w1, w2, w3⟩ := p2 j (by omega)
      refine ⟨w1, w2, ?_⟩
      rw [grp_succ, if_neg (by omega), upd_ne w2]
      exact e2 _ _ w3
  · rw [mi2] at hj hj'
    replace ee : (if j = i then l else L j) = (if j' = i then l else L j') := ee
    by_cases ej : j = i
    · by_cases ej' : j' = i
      · rw [ej, ej']
      · rw [if_pos ej, if_neg ej'] at ee
        exact absurd ee.symm (ne_of_none (p2 j' (by omega)).2.2 hl)
    · by_cases ej' : j' = i
      · rw [if_neg ej, if_pos ej'] at ee
        exact absurd ee (ne_of_none (p2 j (by omega)).2.2 hl)
      · rw [if_neg ej, if_neg ej'] at ee
        exact p3 j j' (by omega) (by omega) ee
  · rw [mi2, upd_same, List.range_succ, List.map_append]
    refine congrArg (fun z => some (HO.lst z)) (congr (congrArg _ (List.map_congr_left fun j hj => ?_)) ?_)
    · have hj := List.mem_range.mp hj
      show _ = V.ref (if j = i then l else L j)
      rw [if_neg (by omega)]
    · show _ = [V.ref (if i = i then l else L i)]
      rw [if_pos rfl]
theorem InvD.go {H0 H1 H2 : Hp} {A : Addr} {r : Rows} {i : Nat} (h : InvD H0 A r i H1) (e : Same H1 H2) : InvD H0 A r i H2 := by
  obtain ⟨h1, L, h2, h3, h4⟩ := h
  exact ⟨h1.trans e, L, fun j hj => ⟨(h2 j hj).1, (h2 j hj).2.1, e _ _ (h2 j hj).2.2⟩, h3, e _ _ h4⟩
theorem lk_get {ks : Knots} {x : Str} {r : Rows} (f : Str × Rows → PyData) (hn : (kn ks).Nodup) (h : (x, r) ∈ ks) : (ks.map fun p => (p.1, f p)).lookup x = some (f (x, r)) := by
  induction ks with
  | nil => cases h
  | cons p t ih =>
    obtain ⟨h1, h2⟩ := List.nodup_cons.mp (show (p.1 :: kn t).Nodup from hn)
    show List.lookup x ((p.1, f p) :: t.map fun p => (p.1, f p)) = _
    rw [List.lookup_cons]; rcases List.mem_cons.mp h with e | m
    · subst e
      simp
    · have q : (x == p.1) = false := by
        simp only [beq_eq_false_iff_ne]
        intro e
        exact h1 (e ▸ List.mem_map.mpr ⟨_, m, rfl⟩)
      rw [q]
      exact ih h2 m
theorem atI_last {xs : List V} {v : V} (h : xs[xs.length - 1]? = some v) : atI xs (-1) = some v := by
  have hl : xs.length - 1 < xs.length := (List.getElem?_eq_some_iff.mp h).1
  unfold atI ixN
  rw [if_neg (by omega), if_pos (by omega)]
  have e : ((-1 : Int) + (xs.length : Int)).toNat = xs.length - 1 := by omega
  rw [e]
  exact h
theorem evd_last {ds : List PyData} {d : PyData} (h : EvD te σ H (.tuple ds)) (hi : ds[ds.length - 1]? = some d) : EvD (tOp (rIxT K) te (tUn (rU fun i => .int (-i)) (tC (.int 1)))) σ H d := fun Q q =>
  h _ fun v H1 e1 hd => ⟨1, rfl, by
    cases hd with
    | @tup a xs _ ha hx =>
      have hl := hx.length
      rw [← hl] at hi
      obtain ⟨y, hy, hyd⟩ := hx.get hi
      exact ⟨a, xs, -1, y, rfl, rfl, SqT.of ha, atI_last hy, q y H1 e1 hyd⟩⟩
/-- turn[:many] * (len(turn) // many) == turn -/
theorem ev_again {f t : Row} {M a b : Nat} (R : Tidy.TidyR f t) (h1 : 0 < M) (h2 : M < t.length) (l60 : t.length ≤ 60) (ok : RowOk t) (hv : ∀ H', Same H H' → EvD (tVar a) σ H' (dRow t)) (hm : ∀ H', Same H H' → Ev (tVar b) σ H' (.int (M : Nat))) :
    Ev (tOp (rEqD K) (tOp (rRepT1 K) (tSl (rSlA K) (tVar a) tNoPart (tPart (tVar b))) (tOp (rI CDiv fun i j => .int (i / j)) (tCB (rLen K) (tCons (tVar a) tNil)) (tVar b))) (tVar a)) σ H (.bl false) := by
  have m : (t.map dDrop).length = t.length := List.length_map _
  have tl : ((t.map dDrop).take M).length = M := by rw [List.length_take, m]; omega
  have len : ∀ H', Same H H' → Ev (tCB (rLen K) (tCons (tVar a) tNil)) σ H' (.int (t.length : Nat)) := fun H' e => by
    have z := ev_lenTD (K := K) (hv H' e)
    rw [m] at z
    exact z
  have z := ev_eqDD (K := K) (σ := σ) (H := H) (ta := tOp (rRepT1 K) (tSl (rSlA K) (tVar a) tNoPart (tPart (tVar b))) (tOp (rI CDiv fun i j => .int (i / j)) (tCB (rLen K) (tCons (tVar a) tNil)) (tVar b))) (tb := tVar a)
    (evd_rep (K := K) (k := t.length / M) (evd_upto (K := K) (c := M) (hv H (Same.refl _)) fun H' e => hm H' e) (fun H4 e4 => ev_fdiv (len H4 e4) (fun H5 e5 => hm H5 (e4.trans e5)) (by omega) (by omega)) (Nat.div_pos (by omega) (by omega)) (Nat.le_trans (Nat.div_le_self _ _) (by omega)) (by rw [tl]; omega) (by rw [tl]; omega))
    (fun H3 e3 => hv H3 e3) (by
      rw [← List.map_take, drow_rep]
      exact row_shaped (rowOk_sub ok fun d hd => List.mem_of_mem_take (rep_mem hd))) (row_shaped ok)
  rw [← List.map_take, drow_rep, eqv_row, decide_eq_false (Tidy.tidy_turn R h1 h2)] at z
  exact z
theorem vk_get {ks : Knots} {x : Str} {r : Rows} (f : Str × Rows → V) (hn : (kn ks).Nodup) (h : (x, r) ∈ ks) : valV (ks.map fun p => ((.inr p.1 : Key), f p)) (.inr x) = some (f (x, r)) := by
  induction ks with
  | nil => cases h
  | cons p t ih =>
    obtain ⟨h1, h2⟩ := List.nodup_cons.mp (show (p.1 :: kn t).Nodup from hn)
    show valV (((.inr p.1 : Key), f p) :: t.map fun p => ((.inr p.1 : Key), f p)) (.inr x) = _
    rw [valV_cons]; rcases List.mem_cons.mp h with e | m
    · subst e
      exact if_pos rfl
    · rw [if_neg (fun e => h1 (by rw [Sum.inr.inj e]; exact List.mem_map.mpr ⟨_, m, rfl⟩))]
      exact ih h2 m
theorem int1_shaped (l : List Nat) : SeqAt.shaped (.list (l.map fun p => .int (p : Nat))) = true := shaped_of (n := 1) (lay_ints l) (Nat.succ_le_succ (depth_map fun _ _ => Nat.le_refl _))
end
end Bc

namespace Bc
open PySem L2 PyProof.Rows StX
section
variable {P : Program} {w : World} {K : PySem.W.Frag} {mg : Str → Option Value} {base : Heap} {ad : Ad}
/-! ### law -/
def spLaw (K : PySem.W.Frag) : Sp := fun vs H Q _ => ∃ (s : Addr) (ns : List Int), vs = [.ref s] ∧ SqL K H s (ns.map V.int) ∧ ns.length ≤ 63 ∧ ∀ H', Q (.bl true) H'
abbrev nmLaw : List Str := ["script", "plain", "name", "knots", "inlets", "names", "net", "late", "groups", "size", "place", "rows", "due", "near", "front", "turn", "standing", "told", "at", "group", "many"]
theorem scLaw : FnScope nmLaw ["script"] (defScope sLaw) := ⟨rfl, rfl, rfl, by decide +kernel, rfl, by decide +kernel, by decide +kernel⟩
theorem ok_law (T : Tb P K mg ad) (FL : Fun K "law" "law" sLaw ad.law ad.dLaw) : FnOk P w K mg base CX0 11 ad.law ad.dLaw ["script"] (spLaw K) := by
  have GD : FnOk P w K mg base CX0 2 ad.draw ad.dDraw ["script", "at", "many"] (spDraw K) := ok_draw T.tc.tx
  have bD := T.tc.tx.fDraw.binds (ps := ["script", "at", "many"]) fun _ _ _ _ _ _ us hl => match us, hl with | [_, _, _], _ => rfl
  have GK_ : FnOk P w K mg base CX0 3 ad.lKnots ad.dLKnots ["script", "at", "lossy"] (spLKnots K) := ok_lknots T.tc.tx
  have bK := T.tc.tx.fLKnots.binds (ps := ["script", "at", "lossy"]) fun _ _ _ _ _ _ us hl => match us, hl with | [_, _, _], _ => rfl
  have GI_ : FnOk P w K mg base CX0 3 ad.lInlets ad.dLInlets ["script", "at", "knots"] (spLInlets K) := ok_linlets T.tc.tx
  have bI := T.tc.tx.fLInlets.binds (ps := ["script", "at", "knots"]) fun _ _ _ _ _ _ us hl => match us, hl with | [_, _, _], _ => rfl
  have GP : FnOk P w K mg base CX0 3 ad.pad ad.dPad ["script", "at", "rows"] (spPad K) := ok_pad T.tc.tx
  have bP := T.tc.tx.fPad.binds (ps := ["script", "at", "rows"]) fun _ _ _ _ _ _ us hl => match us, hl with | [_, _, _], _ => rfl
  have GG : FnOk P w K mg base CX0 2 ad.goes ad.dGoes ["rows", "place", "many"] spGoes := ok_goes T.tc.tx
  have bG := T.tc.tx.fGoes.binds (ps := ["rows", "place", "many"]) fun _ _ _ _ _ _ us hl => match us, hl with | [_, _, _], _ => rfl
  have GN : FnOk P w K mg base CX0 6 ad.init ad.dInit ["self", "knots", "inlets", "outlets"] (spInit ad.cNet) := ok_init T.tc.tx
  have bN := T.tc.tx.fInit.binds (ps := ["self", "knots", "inlets", "outlets"]) fun _ _ _ _ _ _ us hl => match us, hl with | [_, _, _, _], _ => rfl
  have GE : FnOk P w K mg base CX0 3 ad.eq ad.dEq ["self", "other"] (spEq ad.cNet) := ok_eq T.tc
  have bE := T.tc.tx.fEq.binds (ps := ["self", "other"]) fun _ _ _ _ _ _ us hl => match us, hl with | [_, _], _ => rfl
  have GT : FnOk P w K mg base (L2.CX P w) 8 ad.tidied ad.dTidied ["net"] (spTidied ad.cNet ad.cBad) := ok_tidied T
  have bT := T.tc.tx.fTidied.binds (ps := ["net"]) fun _ _ _ _ _ _ us hl => match us, hl with | [_], _ => rfl
  have GIT : FnOk P w K mg base (L2.CX P w) 9 ad.isTidy ad.dIsTidy ["net"] (spIsTidy ad.cNet ad.cBad) := ok_isTidy T
  have bIT := T.tc.tx.fIsTidy.binds (ps := ["net"]) fun _ _ _ _ _ _ us hl => match us, hl with | [_], _ => rfl
  have GA : FnOk P w K mg base (L2.CX P w) 9 ad.alike ad.dAlike ["net"] (spAlike ad.cNet ad.cBad) := ok_alike T
  have bA := T.tc.tx.fAlike.binds (ps := ["net"]) fun _ _ _ _ _ _ us hl => match us, hl with | [_], _ => rfl
  have GTS : FnOk P w K mg base (L2.CX P w) 9 ad.tidSt ad.dTidSt ["net", "standing"] (spTidSt ad.cNet ad.cBad ad.cStd) := ok_tidSt T
  have bTS := T.tc.tx.fTidSt.binds (ps := ["net", "standing"]) fun _ _ _ _ _ _ us hl => match us, hl with | [_, _], _ => rfl
  have GR : FnOk P w K mg base CX0 10 ad.refd ad.dRefd ["net", "names"] (spRef ad.cNet) := ok_ref T
  have bR := T.tc.tx.fRef.binds (ps := ["net", "names"]) fun _ _ _ _ _ _ us hl => match us, hl with | [_, _], _ => rfl
  refine FL.ok scLaw (fun vs H Q E h => ?_) (fun cdv A outer s H vs Q E hr h => ?_)
  · obtain ⟨sa, ns, rfl, _⟩ := h
    rfl
  · obtain ⟨sa, ns, rfl, hS, hl, k⟩ := h
    have hr2 : Room 2 _ := hr.mono (by decide)
    have hr3 : Room 3 _ := hr.mono (by decide)
    have hr4 : Room 4 _ := hr.mono (by decide)
    have hr7 : Room 7 _ := hr.mono (by decide)
    have hr8 : Room 8 _ := hr.mono (by decide)
    have hr9 : Room 9 _ := hr.mono (by decide)
    refine ⟨_, (pss_cons (ps_set (i := 1) scLaw.nd rfl (.inr rfl) (pe_call GK_ hr3 (by rfl) T.tc.tx.gLKnots T.tc.tx.fLKnots.kp bK .nil pass0 (pa_cons (pv 0) (pa_cons pe_int (pa_cons (pe_cmpR op_eq (pe_call GD hr2 (by rfl) T.tc.tx.gDraw T.tc.tx.fDraw.kp bD .nil pass0 (pa_cons (pv 0) (pa_cons pe_int (pa_cons pe_int pa_nil)))) pe_int (nomark _)) pa_nil)))))
      (pss_cons (ps_set (i := 3) scLaw.nd rfl (.inr rfl) (pe_callTy (call_dictP rfl) (by rfl) T.tc.tx.dict b_dict (pa_cons (pe_lc (own := [("at", 18), ("name", 2)]) (g := gTup K 2 (gCons (gName 18) (gCons (gName 2) gNil))) (tt := tYes) rfl scLaw.nd (pi_enum (by rfl) T.tc.tx.enumerate (pa_cons (pe_callB cr_sortedS (by rfl) T.tc.tx.sorted b_sorted (pa_cons (pe_callTy (call_listD rfl) (by rfl) T.tc.tx.list b_list (pa_cons (pv 1) pa_nil)) pa_nil)) pa_nil)) (blkOk_by (N := nmLaw) (sc := defScope sLaw) (by decide +kernel)) (fun _ _ _ _ _ => pg_tup (by rfl) (pgs_cons (pg_name (i := 18) scLaw.nd rfl (Or.inl rfl)) (pgs_cons (pg_name (i := 2) scLaw.nd rfl (Or.inl rfl)) pgs_nil))) (fun _ _ _ _ _ => pts_nil) (fun _ _ _ _ _ => (pe_tup (pa_cons (pv 2) (pa_cons (pe_call GP hr3 (by rfl) T.tc.tx.gPad T.tc.tx.fPad.kp bP .nil pass0 (pa_cons (pv 0) (pa_cons (pe_op op_add pe_int (pe_op op_mul pe_int (pv 18))) (pa_cons (pe_dget (hu_of hr) (pv 1) (pv 2) (fun _ _ => rfl)) pa_nil)))) pa_nil))))) pa_nil)))
      (pss_cons (ps_par (i := 4) (j := 5) rfl scLaw.nd rfl rfl (by decide) rfl rfl (pa_cons (pe_call GI_ hr3 (by rfl) T.tc.tx.gLInlets T.tc.tx.fLInlets.kp bI .nil pass0 (pa_cons (pv 0) (pa_cons pe_int (pa_cons (pv 3) pa_nil)))) (pa_cons (pe_callB cr_sortedS (by rfl) T.tc.tx.sorted b_sorted (pa_cons (pe_callTy (call_listD rfl) (by rfl) T.tc.tx.list b_list (pa_cons (pv 3) pa_nil)) pa_nil)) pa_nil)) rfl)
      (pss_cons (ps_asg (pe_tup (pa_cons (pe_make T.tc.tx.mkN GN hr7 (by rfl) T.tc.tx.gNet bN .nil pass0 (pa_cons (pv 3) (pa_cons (pv 4) (pa_cons (pe_lst (pa_cons pe_str (pa_cons pe_str pa_nil))) pa_nil)))) (pa_cons (pe_call GT hr8 (by rfl) T.tc.tx.gTidied T.tc.tx.fTidied.kp bT .nil passL (pa_cons (pe_make T.tc.tx.mkN GN hr7 (by rfl) T.tc.tx.gNet bN .nil pass0 (pa_cons (pv 3) (pa_cons (pv 4) (pa_cons (pe_lst (pa_cons pe_str (pa_cons pe_str pa_nil))) pa_nil)))) pa_nil)) pa_nil))) (pg_tup (by rfl) (pgs_cons (pg_name (i := 6) scLaw.nd rfl (.inl rfl)) (pgs_cons (pg_name (i := 7) scLaw.nd rfl (.inr rfl)) pgs_nil))))
      (pss_cons (ps_if (PW.pt (pw_or (pt_cmpR (op_neO GE bE pass0 hr4 T.tc.oEq T.tc.ne T.tc.obj) (pv 7) (pe_call GT hr8 (by rfl) T.tc.tx.gTidied T.tc.tx.fTidied.kp bT .nil passL (pa_cons (pe_make T.tc.tx.mkN GN hr7 (by rfl) T.tc.tx.gNet bN .nil pass0 (pa_cons (pv 1) (pa_cons (pv 4) (pa_cons (pe_lst (pa_cons pe_str (pa_cons pe_str pa_nil))) pa_nil)))) pa_nil)) (nomark _)) (pw_or (pt_cmpR (op_neO GE bE pass0 hr4 T.tc.oEq T.tc.ne T.tc.obj) (pe_call GT hr8 (by rfl) T.tc.tx.gTidied T.tc.tx.fTidied.kp bT .nil passL (pa_cons (pv 7) pa_nil)) (pv 7) (nomark _)) (pw_or (pt_not (pt_val (pe_call GIT hr9 (by rfl) T.tc.tx.gIsTidy T.tc.tx.fIsTidy.kp bIT .nil passL (pa_cons (pv 7) pa_nil)))) (pw_or (pt_cmpR (op_neDK (in1u hr)) (pe_fld (pv 7) rfl) (pv 4) (nomark _)) (pw_or1 (pt_cmpR (op_neD hr.units) (pe_fld (pv 7) rfl) (pe_tup (pa_cons pe_str (pa_cons pe_str pa_nil))) (nomark _)))))))) (pss_one (ps_ret pe_bl)) pss_nil)
      (pss_cons (ps_if (PW.pt (pw_or (pt_cmpR op_ne (pe_call GIT hr9 (by rfl) T.tc.tx.gIsTidy T.tc.tx.fIsTidy.kp bIT .nil passL (pa_cons (pv 6) pa_nil)) (pe_cmpR (op_eqO GE bE pass0 hr3 T.tc.oEq) (pv 6) (pv 7) (nomark _)) (nomark _)) (pw_or1 (pt_cmpR (op_neD hr.units) (pe_callTy (call_listD rfl) (by rfl) T.tc.tx.list b_list (pa_cons (pe_fld (pv 7) rfl) pa_nil)) (pv 5) (nomark _))))) (pss_one (ps_ret pe_bl)) pss_nil)
      (pss_cons (ps_set (i := 8) scLaw.nd rfl (.inl rfl) (pe_call GA hr9 (by rfl) T.tc.tx.gAlike T.tc.tx.fAlike.kp bA .nil passL (pa_cons (pv 6) pa_nil)))
      (pss_cons (ps_if (pt_cmpR (op_neD hr.units) (pe_callTy (call_listD rfl) (by rfl) T.tc.tx.list b_list (pa_cons (pv 8) pa_nil)) (pv 5) (nomark _)) (pss_one (ps_ret pe_bl)) pss_nil)
      (pss_cons (ps_for PassesOwn.never rfl (pi_list (pv 5)) (pg_name (i := 2) scLaw.nd rfl (.inr rfl)) (pss_cons (ps_set (i := 9) scLaw.nd rfl (.inl rfl) (pe_op op_add (pe_callB (call_lenK (K := K) rfl) (by rfl) T.tc.tx.len PySem.boot_len (pa_cons (pe_ix ix_tup (pe_dget (hu_of hr) (pv 3) (pv 2) (fun _ _ => rfl)) pe_int (fun _ _ => rfl)) pa_nil)) (pe_callB (call_lenK (K := K) rfl) (by rfl) T.tc.tx.len PySem.boot_len (pa_cons (pe_ix ix_tup (pe_dget (hu_of hr) (pv 3) (pv 2) (fun _ _ => rfl)) pe_int (fun _ _ => rfl)) pa_nil))))
      (pss_cons (ps_set (i := 11) scLaw.nd rfl (.inr rfl) (pe_lc (own := [("place", 10)]) (g := gName 10) (tt := tYes) rfl scLaw.nd (pi_range1 (by rfl) T.tc.tx.range (pa_cons (pv 9) pa_nil)) (blkOk_by (N := nmLaw) (sc := defScope sLaw) (by decide +kernel)) (fun _ _ _ _ _ => pg_name (i := 10) scLaw.nd rfl (Or.inl rfl)) (fun _ _ _ _ _ => pts_nil) (fun _ _ _ _ _ => (pe_call GG hr2 (by rfl) T.tc.tx.gGoes T.tc.tx.fGoes.kp bG .nil pass0 (pa_cons (pe_dget (hu_of hr) (pv 3) (pv 2) (fun _ _ => rfl)) (pa_cons (pv 10) (pa_cons pe_int pa_nil)))))))
      (pss_cons (ps_set (i := 12) scLaw.nd rfl (.inr rfl) (pe_lst pa_nil))
      (pss_cons (ps_for PassesOwn.never rfl (pi_range1 (by rfl) T.tc.tx.range (pa_cons (pv 9) pa_nil)) (pg_name (i := 10) scLaw.nd rfl (.inr rfl)) (pss_cons (ps_setLc (i := 13) (own := [("group", 19)]) (g := gName 19) rfl scLaw.nd rfl rfl (swL_true rfl rfl rfl (by decide +kernel)) (pi_list (pv 12)) (blkOk_by (N := nmLaw) (sc := defScope sLaw) (by decide +kernel)) (fun _ _ _ _ _ => pg_name (i := 19) scLaw.nd rfl (Or.inl rfl)) (fun _ _ _ _ _ => pts_one (pt_cmpR (op_eqDX (K := K) rfl hr.units) (pe_ix (ix_listK (K := K) rfl) (pv 11) (pe_ix (ix_listK (K := K) rfl) (pv 19) pe_int (fun _ _ => rfl)) (fun _ _ => rfl)) (pe_ix (ix_listK (K := K) rfl) (pv 11) (pv 10) (fun _ _ => rfl)) (nomark _))) (fun _ _ _ _ _ => pv 19))
      (pss_one (ps_if (pt_cmpR (op_neD hr.units) (pv 13) (pe_lst pa_nil) (nomark _)) (pss_one (ps_expr (pe_bm PySem.F.plainAttrs_list PySem.F.slot_list_append PySem.F.type_list_append mt_append (pe_ix ix_list (pv 13) pe_int (fun _ _ => rfl)) (pa_cons (pv 10) pa_nil)))) (pss_one (ps_expr (pe_bm PySem.F.plainAttrs_list PySem.F.slot_list_append PySem.F.type_list_append mt_append (pv 12) (pa_cons (pe_lst (pa_cons (pv 10) pa_nil)) pa_nil))))))))
      (pss_cons (ps_if (pt_cmpR (op_neD hr.units) (pe_dget (hu_of hr) (pv 8) (pv 2) (fun _ _ => rfl)) (pv 12) (nomark _)) (pss_one (ps_ret pe_bl)) pss_nil)
      (pss_cons (ps_asg (pe_dget (hu_of hr) (pe_fld (pv 7) rfl) (pv 2) (fun _ _ => rfl)) (pg_tup (by rfl) (pgs_cons (pg_name (i := 14) scLaw.nd rfl (.inl rfl)) (pgs_cons (pg_name (i := 15) scLaw.nd rfl (.inr rfl)) pgs_nil))))
      (pss_cons (ps_if (PW.pt (pw_or (pt_cmpR op_ne (pe_op op_add (pe_callB (call_lenK (K := K) rfl) (by rfl) T.tc.tx.len PySem.boot_len (pa_cons (pv 14) pa_nil)) (pe_callB (call_lenK (K := K) rfl) (by rfl) T.tc.tx.len PySem.boot_len (pa_cons (pv 15) pa_nil))) (pe_callB (call_lenK (K := K) rfl) (by rfl) T.tc.tx.len PySem.boot_len (pa_cons (pv 12) pa_nil)) (nomark _)) (pw_or1 (pt_cmpR (op_neD hr.units) (pe_call GG hr2 (by rfl) T.tc.tx.gGoes T.tc.tx.fGoes.kp bG .nil pass0 (pa_cons (pe_dget (hu_of hr) (pe_fld (pv 7) rfl) (pv 2) (fun _ _ => rfl)) (pa_cons pe_int (pa_cons pe_int pa_nil)))) (pe_ix ix_list (pv 11) pe_int (fun _ _ => rfl)) (nomark _))))) (pss_one (ps_ret pe_bl)) pss_nil)
      (pss_one (ps_if (PW.pt (pw_or (PW.pt (pw_and (pt_cmpR (op_neD hr.units) (pv 14) (pe_tup pa_nil) (nomark _)) (pw_and1 (pt_cmpR (op_eqD hr.units) (pe_ix ix_tup (pv 14) (pe_un un_neg pe_int) (fun _ _ => rfl)) (pe_ix ix_tup (pv 15) (pe_un un_neg pe_int) (fun _ _ => rfl)) (nomark _))))) (pw_or1 (pt_val (pe_callB (cr_any rfl) (by rfl) T.tc.tx.any b_any (pa_cons (pe_lc (own := [("many", 20)]) (g := gName 20) (tt := tYes) rfl scLaw.nd (pi_range2 (by rfl) T.tc.tx.range (pa_cons pe_int (pa_cons (pe_callB (call_lenK (K := K) rfl) (by rfl) T.tc.tx.len PySem.boot_len (pa_cons (pv 15) pa_nil)) pa_nil))) (blkOk_by (N := nmLaw) (sc := defScope sLaw) (by decide +kernel)) (fun _ _ _ _ _ => pg_name (i := 20) scLaw.nd rfl (Or.inl rfl)) (fun _ _ _ _ _ => pts_nil) (fun _ _ _ _ _ => (pe_cmpR (op_eqDX (K := K) rfl hr.units) (pe_op (op_repT1X (K := K) rfl) (pe_slice (sl_tupAX (K := K) rfl) (pv 15) po_none (po_some (pv 20))) (pe_op op_fdiv (pe_callB (call_lenK (K := K) rfl) (by rfl) T.tc.tx.len PySem.boot_len (pa_cons (pv 15) pa_nil)) (pv 20))) (pv 15) (nomark _)))) pa_nil)))))) (pss_one (ps_ret pe_bl)) pss_nil))))))))))
      (pss_cons (ps_for PassesOwn.never rfl (pi_range1 (by rfl) T.tc.tx.range (pa_cons pe_int pa_nil)) (pg_name (i := 15) scLaw.nd rfl (.inr rfl)) (pss_cons (ps_set (i := 16) scLaw.nd rfl (.inl rfl) (pe_callTy (call_dictP rfl) (by rfl) T.tc.tx.dict b_dict (pa_cons (pe_lc (own := [("at", 18), ("name", 2)]) (g := gTup K 2 (gCons (gName 18) (gCons (gName 2) gNil))) (tt := tYes) rfl scLaw.nd (pi_enum (by rfl) T.tc.tx.enumerate (pa_cons (pv 5) pa_nil)) (blkOk_by (N := nmLaw) (sc := defScope sLaw) (by decide +kernel)) (fun _ _ _ _ _ => pg_tup (by rfl) (pgs_cons (pg_name (i := 18) scLaw.nd rfl (Or.inl rfl)) (pgs_cons (pg_name (i := 2) scLaw.nd rfl (Or.inl rfl)) pgs_nil))) (fun _ _ _ _ _ => pts_nil) (fun _ _ _ _ _ => (pe_tup (pa_cons (pv 2) (pa_cons (pe_call GD hr2 (by rfl) T.tc.tx.gDraw T.tc.tx.fDraw.kp bD .nil pass0 (pa_cons (pv 0) (pa_cons (pe_op op_add (pe_op op_add pe_int (pe_op op_mul pe_int (pv 15))) (pv 18)) (pa_cons (pe_op op_add (pe_callB (call_lenK (K := K) rfl) (by rfl) T.tc.tx.len PySem.boot_len (pa_cons (pe_ix (ix_tupK (K := K) rfl) (pe_dget (hu_of hr) (pv 3) (pv 2) (fun _ _ => rfl)) pe_int (fun _ _ => rfl)) pa_nil)) (pe_callB (call_lenK (K := K) rfl) (by rfl) T.tc.tx.len PySem.boot_len (pa_cons (pe_ix (ix_tupK (K := K) rfl) (pe_dget (hu_of hr) (pv 3) (pv 2) (fun _ _ => rfl)) pe_int (fun _ _ => rfl)) pa_nil))) pa_nil)))) pa_nil))))) pa_nil)))
      (pss_cons (ps_set (i := 17) scLaw.nd rfl (.inl rfl) (pe_call GTS hr9 (by rfl) T.tc.tx.gTidSt T.tc.tx.fTidSt.kp bTS .nil passL (pa_cons (pv 6) (pa_cons (pv 16) pa_nil))))
      (pss_cons (ps_if (pt_cmpR (op_neD hr.units) (pe_callTy (call_listD rfl) (by rfl) T.tc.tx.list b_list (pa_cons (pv 17) pa_nil)) (pv 5) (nomark _)) (pss_one (ps_ret pe_bl)) pss_nil)
      (pss_one (ps_for PassesOwn.never rfl (pi_list (pv 5)) (pg_name (i := 2) scLaw.nd rfl (.inr rfl)) (pss_cons (ps_set (i := 12) scLaw.nd rfl (.inr rfl) (pe_call GG hr2 (by rfl) T.tc.tx.gGoes T.tc.tx.fGoes.kp bG .nil pass0 (pa_cons (pe_dget (hu_of hr) (pv 3) (pv 2) (fun _ _ => rfl)) (pa_cons (pe_dget (hu_of hr) (pv 16) (pv 2) (fun _ _ => rfl)) (pa_cons pe_int pa_nil)))))
      (pss_cons (ps_setLc (i := 13) (own := [("place", 10)]) (g := gName 10) rfl scLaw.nd rfl rfl (swL_true rfl rfl rfl (by decide +kernel)) (pi_range1 (by rfl) T.tc.tx.range (pa_cons (pe_op op_add (pe_callB (call_lenK (K := K) rfl) (by rfl) T.tc.tx.len PySem.boot_len (pa_cons (pe_ix ix_tup (pe_dget (hu_of hr) (pe_fld (pv 7) rfl) (pv 2) (fun _ _ => rfl)) pe_int (fun _ _ => rfl)) pa_nil)) (pe_callB (call_lenK (K := K) rfl) (by rfl) T.tc.tx.len PySem.boot_len (pa_cons (pe_ix ix_tup (pe_dget (hu_of hr) (pe_fld (pv 7) rfl) (pv 2) (fun _ _ => rfl)) pe_int (fun _ _ => rfl)) pa_nil))) pa_nil)) (blkOk_by (N := nmLaw) (sc := defScope sLaw) (by decide +kernel)) (fun _ _ _ _ _ => pg_name (i := 10) scLaw.nd rfl (Or.inl rfl)) (fun _ _ _ _ _ => pts_one (pt_cmpR (op_eqDX (K := K) rfl hr.units) (pe_call GG hr2 (by rfl) T.tc.tx.gGoes T.tc.tx.fGoes.kp bG .nil pass0 (pa_cons (pe_dget (hu_of hr) (pe_fldX (K := K) rfl (pv 7) rfl) (pv 2) (fun _ _ => rfl)) (pa_cons (pv 10) (pa_cons pe_int pa_nil)))) (pv 12) (nomark _))) (fun _ _ _ _ _ => pv 10))
      (pss_one (ps_if (PW.pt (pw_or (pt_cmpR (op_eqD hr.units) (pv 13) (pe_lst pa_nil) (nomark _)) (pw_or1 (pt_cmpR op_ne (pe_dget (hu_of hr) (pv 17) (pv 2) (fun _ _ => rfl)) (pe_ix ix_list (pv 13) pe_int (fun _ _ => rfl)) (nomark _))))) (pss_one (ps_ret pe_bl)) pss_nil))))))))))
      (pss_one (ps_ret (pe_call GR hr (by rfl) T.tc.tx.gRef T.tc.tx.fRef.kp bR .nil pass0 (pa_cons (pv 6) (pa_cons (pv 5) pa_nil))))))))))))))), ?_⟩
    have dr : ∀ {σ : L2.St} {H1 : Hp} {E' : XK} {ta tm : TE} {a m : Nat}, SqL K H1 sa (ns.map V.int) → σ[0]? = some (some (.ref sa)) → (∀ H', Same H1 H' → Ev ta σ H' (.int (a : Nat))) → (∀ H', Same H1 H' → Ev tm σ H' (.int (m : Nat))) → a ≤ 100000 → 1 ≤ m → m ≤ 100000 →
        EvN (tCall (spDraw K) [] E' (tCons (tVar 0) (tCons ta (tCons tm tNil)))) σ H1 fun r => r < m := fun hS1 h0 ha hm h1 h2 h3 =>
      evn_draw (ea_cons (ev_tv h0) fun H2 e2 => ea_cons (ha H2 e2) fun H3 e3 => ea_cons (hm H3 (e2.trans e3)) fun _ _ => ea_nil) hS1 hl h1 h2 h3
    refine q_asgR (fun v H' => ∃ p kv ks r, v = .ref p ∧ r < 4 ∧ Same H H' ∧ H' p = some (.dK kv) ∧ Dk H' kv (kd ks) ∧ DKn (1 + r) (1 + r) ks) (fun Q1 q1 => ?_) fun v H1 hv => ?_
    · refine ⟨_, rfl, ?_⟩
      refine dr hS rfl (fun _ _ => ev_tc) (fun _ _ => ev_tc) (by decide : (1 : Nat) ≤ 100000) (by decide : (1 : Nat) ≤ 2) (by decide) _ fun rr H2 _ e2 => ⟨rfl, ?_⟩
      exact ⟨sa, ns, 0, _, rfl, Same.seqL e2 hS, hl, by decide, fun p kv ks r H' hr4 hp e hk hd dk => q1 _ _ ⟨p, kv, ks, r, rfl, hr4, e2.trans e, hk, hd, dk⟩⟩
    obtain ⟨pa, pv_, pk, r, rfl, hr4, e1, hpa, hpk, dkn⟩ := hv
    have gp := gk_of hr4 dkn
    have hkp : kn pk = ab.take (1 + r) := by
      rw [dkn.names, List.take_take]
      congr 1
      omega
    have sp : SK (1 + r) pk := ⟨gp, hkp⟩
    have npl : (kn pk).length = 1 + r := by rw [hkp, ab_len hr4]
    have pkeys : pv_.map (·.1) = (kn pk).map Sum.inr := by rw [hpk.keys, kd_keys]
    have srtp : srt (kn pk) = kn pk := by
      rw [hkp]
      exact srt_of_sorted (List.Perm.refl _) (ab_sorted _)
    have hS1 := Same.seqL e1 hS
    have KP : KD H1 pa pk := ⟨pv_, hpa, hpk⟩
    have ndp := sp.nd
    refine q_asgKR (ekr_dict (epr_enum (K := K) (zs := kn pk) (R := fun i d => ∃ r', d = dRows r' ∧ ∃ z pr, pk[i]? = some (z, pr) ∧ PadOk pr 5 r'.1 r'.2) (by
        have z := el_sortS (K := K) (el_listD (σ := [some (.ref sa), some (.ref pa), none, none, none, none, none, none, none, none, none, none, none, none, none, none, none, none, none, none, none]) (ta := tVar 1) (ev_tv rfl) hpa pkeys) (by omega)
        rw [srtp] at z
        exact fun Q q => z Q fun p H' _ e hx => q p H' e hx) (by omega) (fun i d hd H' H2 v ts hv => ?_) (fun _ _ => rfl) fun i z H2 hz e2 => ⟨ev_tv rfl, fun H3 e3 Q2 q2 => ?_⟩) ndp) fun ka H2 kv kds hka0 e2 hka hkd hkz hkr => ?_
    · obtain ⟨r', rfl, _⟩ := hd
      exact hv.rows_ts ts
    · obtain ⟨pr, hpi⟩ : ∃ pr, pk[i]? = some (z, pr) := by
        unfold kn at hz
        rw [List.getElem?_map] at hz
        obtain ⟨p, hp, rfl⟩ := Option.map_eq_some_iff.mp hz
        exact ⟨p.2, hp⟩
      have hm := List.mem_of_getElem? hpi
      have drw : DRows (1 + r) pr := dkn.rows _ hm
      have hil : i < pk.length := (List.getElem?_eq_some_iff.mp hpi).1
      have pkl : pk.length = 1 + r := sp.len
      have at_ : Ev (tOp (rI0 fun i j => .int (i + j)) (tC (.int 300)) (tOp (rI CMul fun i j => .int (i * j)) (tC (.int 5)) (tVar 18))) [some (.ref sa), some (.ref pa), some (.str z), none, none, none, none, none, none, none, none, none, none, none, none, none, none, none, some (.int (i : Nat)), none, none] H3 (.int ((300 + 5 * i : Nat) : Int)) := by
        have q := ev_I0 (g := fun i j => .int (i + j)) (ta := tC (.int 300)) (σ := [some (.ref sa), some (.ref pa), some (.str z), none, none, none, none, none, none, none, none, none, none, none, none, none, none, none, some (.int (i : Nat)), none, none]) (H := H3) ev_tc fun H' _ => ev_I (C := CMul) (g := fun i j => .int (i * j)) (ta := tC (.int 5)) (tb := tVar 18) ev_tc (fun _ _ => ev_tv rfl) (.inl ⟨by omega, by omega⟩)
        have e3 : ((300 + 5 * i : Nat) : Int) = 300 + 5 * ((i : Nat) : Int) := by omega
        rw [e3]
        exact q
      refine ⟨_, rfl, ?_⟩
      refine at_ _ fun H4 e4 => ?_
      have e14 := e2.trans (e3.trans e4)
      refine evd_row (ty := tVar 2) (KP.go e14) ndp hm (ev_tv rfl) (fun _ _ => ev_tv rfl) _ fun v H5 e5 hv => ?_
      exact ⟨sa, ns, 300 + 5 * i, v, pr, rfl, Same.seqL (e14.trans e5) hS1, hl, by omega, hv, drw.l1, drw.l2, drw.l3, fun v H' f t e pok hd => q2 v _ H' (e4.trans (e5.trans e)) ⟨(f, t), rfl, z, pr, hpi, pok⟩ hd⟩
    obtain ⟨ks, rfl, hpadk⟩ := kd_of (R' := fun i r' => ∃ z pr, pk[i]? = some (z, pr) ∧ PadOk pr 5 r'.1 r'.2) kds hkr
    have hkz : kn ks = kn pk := by rw [← hkz, kd_keys]
    have padk : PadK pk ks := hpadk
    have sk : SK (1 + r) ks := pad_sk sp hkz padk
    have etk : tks ks = tks pk := pad_tks sp hkz padk
    have nd := sk.nd
    have hkn := sk.hkn
    have knl : (kn ks).length = 1 + r := by rw [hkz, npl]
    have KK : KD H2 ka ks := ⟨kv, hka, hkd⟩
    have kkeys : kv.map (·.1) = (kn ks).map Sum.inr := by rw [hkd.keys, kd_keys]
    have srtk : srt (kn ks) = kn ks := by rw [hkz]; exact srtp
    have rowF : ∀ z rr, (z, rr) ∈ ks → rr.1.length ≤ 5 ∧ 1 ≤ rr.2.length ∧ rr.2.length ≤ 12 := fun z rr hm => by
      obtain ⟨pr, _, p⟩ := pad_at hkz padk hm
      exact ⟨p.fl, p.t1, p.t12⟩
    have hS2 := Same.seqL e2 hS1
    refine q_par2 (R1 := fun v H' => ∃ p y, v = .ref p ∧ H2 p = none ∧ Same H2 H' ∧ y ∈ ab.take (1 + r) ∧ H' p = some (.dK (insD y))) (R2 := fun v w H' => ∃ p y l, v = .ref p ∧ w = .ref l ∧ H2 p = none ∧ Same H2 H' ∧ y ∈ ab.take (1 + r) ∧ H' p = some (.dK (insD y)) ∧ H' l = some (.lst ((kn ks).map V.str))) (fun Q1 q1 => ?_) (fun v H3 hv Q1 q1 => ?_) fun v w H3 hv => ?_
    · refine ⟨_, rfl, _, rfl, sa, ns, 5, ka, kv, kn ks, rfl, hS2, hl, by decide, hka, kkeys, by omega, by omega, fun p y H' hy hp e hi => q1 _ _ ⟨p, y, rfl, hp, e, by rw [← hkn]; exact hy, hi⟩⟩
    · obtain ⟨p, y, rfl, hp, e3, hy, hi⟩ := hv
      have z := el_sortS (K := K) (el_listD (σ := [some (.ref sa), some (.ref pa), none, some (.ref ka), none, none, none, none, none, none, none, none, none, none, none, none, none, none, none, none, none]) (ta := tVar 3) (ev_tv rfl) (e3 _ _ hka) kkeys) (by omega)
      rw [srtk] at z
      exact z _ fun l H4 _ e4 hx => q1 _ _ ⟨p, y, l, rfl, rfl, hp, e3.trans e4, hy, e4 _ _ hi, hx⟩
    obtain ⟨ia, y, zl, rfl, rfl, hia0, e3, hy, hia, hzl⟩ := hv
    have kai : ka ≠ ia := ne_of_none hka hia0
    have pai : pa ≠ ia := ne_of_none (e2 _ _ hpa) hia0
    have mk : ∀ {σ : L2.St} {H' : Hp} {i : Nat} {a : Addr} {k2 : Knots} {o1 o2 : Str} {E' : XK}, (([o1, o2] : List Str) = (["o", "p"] : List Str) ∨ ([o1, o2] : List Str) = (["p", "o"] : List Str)) → σ[i]? = some (some (.ref a)) → σ[4]? = some (some (.ref ia)) → SK (1 + r) k2 → a ≠ ia → KD H' a k2 → H' ia = some (.dK (insD y)) →
        ErN (tMake ad.cNet (spInit ad.cNet) [] E' (tCons (tVar i) (tCons (tVar 4) (tCons (tLst (tCons (tC (.str o1)) (tCons (tC (.str o2)) tNil))) tNil)))) σ H' ad.cNet k2 y := fun ho h1 h2 s2 ne hk hi => er_mk s2 hy ho (ev_tv h1) (fun _ _ => ev_tv h2) ne hk hi
    refine q_tup2R (K := K) (R1 := fun v H' => ∃ x, v = .ref x ∧ Same H3 H' ∧ NetS H' ad.cNet x ks y) (R2 := fun v w H' => ∃ x x', v = .ref x ∧ w = .ref x' ∧ Same H3 H' ∧ NetS H' ad.cNet x ks y ∧ NetS H' ad.cNet x' (tks ks) y) (fun Q1 q1 => ?_) (fun v H4 hv Q1 q1 => ?_) fun v w H4 p hv hp => ?_
    · exact mk (.inl rfl) rfl rfl sk kai (KK.go e3) hia Q1 fun x H' e n => q1 _ _ ⟨x, rfl, e, n⟩
    · obtain ⟨x, rfl, e4, n4⟩ := hv
      exact er_tid sk hy (mk (.inr rfl) rfl rfl sk kai (KK.go (e3.trans e4)) (e4 _ _ hia)) Q1 fun x' H' e n => q1 _ _ ⟨x, x', rfl, rfl, e4.trans e, n4.go e, n⟩
    obtain ⟨na, la, rfl, rfl, e4, nn, nl⟩ := hv
    have e4p := e4.trans (same_upd (o := HO.tup [V.ref na, .ref la]) hp)
    replace nn := nn.go (same_upd (o := HO.tup [V.ref na, .ref la]) hp)
    replace nl := nl.go (same_upd (o := HO.tup [V.ref na, .ref la]) hp)
    have hzl5 := e4p _ _ hzl
    have hia5 := e4p _ _ hia
    have KK5 := KK.go (e3.trans e4p)
    have KP5 := KP.go (e2.trans (e3.trans e4p))
    have hS5 := Same.seqL (e3.trans e4p) hS2
    clear e4 e4p
    generalize upd H4 p (.tup [V.ref na, .ref la]) = H5 at nn nl hzl5 hia5 KK5 KP5 hS5
    obtain ⟨dx, lka, lia, loa, lkv, liv, l1, l2, l3, l4, l5, l6⟩ := nl.ex
    have stk := sk.tidy
    have lkeys : lkv.map (·.1) = (kn ks).map Sum.inr := by rw [l3.keys, kd_keys, kn_tks]
    have okk : ∀ x ∈ kn ks, PyData.strOk x = true := fun x hx => ok_abn (n := 1 + r) (by rw [← hkn]; exact hx)
    have lnm : (PyData.list ((kn ks).map PyData.str)).canLay0 = true := lay_strs okk
    have snm : SeqAt.shaped (.list ((kn ks).map PyData.str)) = true := shaped_of lnm (Nat.succ_le_succ (depth_strs _))
    have lo : (dOs ["o", "p"]).canLay0 = true := lay_os go_op
    have so : SeqAt.shaped (dOs ["o", "p"]) = true := shaped_of lo (Nat.succ_le_succ (depth_strs _))
    have shp := stk.shp hy
    have gi := gi_is0 (n := 1 + r) (by omega) hy
    refine q_no (evb_is (EvB.or (EvB.of' (er_neG (C := ad.cNet) stk sp.tidy hy (er_var (ev_tv rfl) nl) fun H6 e6 => er_tid sp hy (mk (.inl rfl) rfl rfl sp pai (KP5.go e6) (e6 _ _ hia5)))) fun _ H6 e6 =>
      EvB.or (EvB.of' (er_neG (C := ad.cNet) stk.tidy stk hy (er_tid stk hy (er_var (ev_tv rfl) (nl.go e6))) fun H7 e7 => er_var (ev_tv rfl) (nl.go (e6.trans e7)))) fun _ H7 e7 =>
      EvB.or (EvB.not (EvB.of (ev_istidy stk hy (er_var (ev_tv rfl) (nl.go (e6.trans e7)))))) fun _ H8 e8 =>
      EvB.or (EvB.of' (ev_neVV (ev_fld (K := K) (ev_tv rfl) ((e6.trans (e7.trans e8)) _ _ l1) T.tc.tx.cl T.tc.tx.nInlets in_f) (fun _ _ => ev_tv rfl) ((e6.trans (e7.trans e8)) _ _ l4) ((e6.trans (e7.trans e8)) _ _ hia5) (l5.go (e6.trans (e7.trans e8))) dk_is0 shp.is shp.is)) fun _ H9 e9 =>
      EvB.of' (ev_neDD (K := K) (d := dOs ["o", "p"]) (e := dOs ["o", "p"]) (evd_ev (ev_fld (K := K) (ev_tv rfl) ((e6.trans (e7.trans (e8.trans e9))) _ _ l1) T.tc.tx.cl T.tc.tx.nOutlets out_f) fun H10 e10 => .tup ((e6.trans (e7.trans (e8.trans (e9.trans e10)))) _ _ l6) (Dts.strs _)) (fun H10 e10 => evd_tup2 (evd_of ev_tc (.str _)) fun _ _ => evd_of ev_tc (.str _)) so so)) ?_) fun H6 e6 => ?_
    · rw [etk, decide_eq_true rfl, ← etk, tks_tks sk, decide_eq_true rfl, eqDK_refl (ds := id_ (is0 y)) (by show (["i", "j"] : List Str).Nodup; decide +kernel) (lay_id gi), SeqAt.eqv_refl _ lo]
      rfl
    replace nn := nn.go e6
    replace nl := nl.go e6
    replace l1 := e6 _ _ l1
    replace l2 := e6 _ _ l2
    replace l3 := l3.go e6
    replace hzl5 := e6 _ _ hzl5
    replace KK5 := KK5.go e6
    replace hS5 := Same.seqL e6 hS5
    clear e6 l4 l5 l6 hia5 KP5
    refine q_no (evb_is (EvB.or (EvB.of' (ev_ne (ev_istidy sk hy (er_var (ev_tv rfl) nn)) (fun H7 e7 => er_eqG (C := ad.cNet) sk stk hy (er_var (ev_tv rfl) (nn.go e7)) fun H8 e8 => er_var (ev_tv rfl) (nl.go (e7.trans e8))) rfl)) fun _ H7 e7 =>
      EvB.of' (ev_neDD (K := K) (evd_ofL (el_listD (ev_fld (K := K) (ev_tv rfl) (e7 _ _ l1) T.tc.tx.cl T.tc.tx.nKnots kn_f) (e7 _ _ l2) lkeys) fun _ => Dts.strs _) (fun H8 e8 => evd_of (ev_tv rfl) (.lst ((e7.trans e8) _ _ hzl5) (Dts.strs _))) snm snm)) ?_) fun H7 e7 => ?_
    · rw [SeqAt.eqv_refl _ lnm, decide_eq_decide.mpr (eq_comm (a := tks ks) (b := ks)), decide_eq_true rfl]
      rfl
    replace nn := nn.go e7
    replace nl := nl.go e7
    replace l1 := e7 _ _ l1
    replace l2 := e7 _ _ l2
    replace l3 := l3.go e7
    replace hzl5 := e7 _ _ hzl5
    replace KK5 := KK5.go e7
    replace hS5 := Same.seqL e7 hS5
    clear e7
    refine q_asgR (fun v H' => ∃ d gv, v = .ref d ∧ Same H7 H' ∧ H' d = some (.dK gv) ∧ Dk H' gv (ks.map fun p => (p.1, alk p.2))) (fun Q1 q1 => ?_) fun v H8 hv => ?_
    · exact ⟨_, rfl, _, rfl, .inl ⟨na, 1 + r, ks, y, rfl, nn, sk, hy, fun d gv H' _ e hd hdk => q1 _ _ ⟨d, gv, rfl, e, hd, hdk⟩⟩⟩
    obtain ⟨ga, gv, rfl, e8, hga, hgd⟩ := hv
    replace nn := nn.go e8
    replace nl := nl.go e8
    replace l1 := e8 _ _ l1
    replace l2 := e8 _ _ l2
    replace l3 := l3.go e8
    replace hzl5 := e8 _ _ hzl5
    replace KK5 := KK5.go e8
    replace hS5 := Same.seqL e8 hS5
    clear e8
    have gkeys : gv.map (·.1) = (kn ks).map Sum.inr := by
      have e : (ks.map fun p => (p.1, alk p.2)).map (fun p => p.1) = kn ks := by
        unfold kn
        rw [List.map_map]
        rfl
      rw [hgd.keys]
      exact congrArg _ e
    refine q_no (evb_is (EvB.of' (ev_neDD (K := K) (evd_ofL (el_listD (ev_tv rfl) hga gkeys) fun _ => Dts.strs _) (fun H9 e9 => evd_of (ev_tv rfl) (.lst (e9 _ _ hzl5) (Dts.strs _))) snm snm)) (by rw [SeqAt.eqv_refl _ lnm]; rfl)) fun H9 e9 => ?_
    replace nn := nn.go e9
    replace nl := nl.go e9
    replace l1 := e9 _ _ l1
    replace l2 := e9 _ _ l2
    replace l3 := l3.go e9
    replace hzl5 := e9 _ _ hzl5
    replace KK5 := KK5.go e9
    replace hS5 := Same.seqL e9 hS5
    replace hga := e9 _ _ hga
    replace hgd := hgd.go e9
    clear e9
    have rowK : ∀ z rr, (z, rr) ∈ ks → RowOk rr.1 ∧ RowOk rr.2 := fun z rr hm => (sk.g.rows (z, rr) hm).rowOk
    have latR : ∀ {σ : L2.St} {H' : Hp} {z : Str} {rr : Rows}, σ[7]? = some (some (.ref la)) → σ[2]? = some (some (.str z)) → (z, rr) ∈ ks → Same H9 H' → EvD (tDGet (tFld K (tVar 7) "knots") (tVar 2)) σ H' (dRows (tr rr)) := fun h7 h2 hm e =>
      evd_row (ks := tks ks) ⟨lkv, e _ _ l2, l3.go e⟩ stk.nd (tks_mem hm) (ev_fld (K := K) (ev_tv h7) (e _ _ l1) T.tc.tx.cl T.tc.tx.nKnots kn_f) fun _ _ => ev_tv h2
    have knR : ∀ {σ : L2.St} {H' : Hp} {z : Str} {rr : Rows}, σ[3]? = some (some (.ref ka)) → σ[2]? = some (some (.str z)) → (z, rr) ∈ ks → Same H9 H' → EvD (tDGet (tVar 3) (tVar 2)) σ H' (dRows rr) := fun h3 h2 hm e =>
      evd_row (KK5.go e) nd hm (ev_tv h3) fun _ _ => ev_tv h2
    refine q_forLV (K := K) (ev_tv rfl) hzl5 (fun i σ' H' => (∃ x2 x9 x10 x11 x12 x13 x14 x15, σ' = [some (.ref sa), some (.ref pa), x2, some (.ref ka), some (.ref ia), some (.ref zl), some (.ref na), some (.ref la), some (.ref ga), x9, x10, x11, x12, x13, x14, x15, none, none, none, none, none]) ∧ Same H9 H') (fun H' e => ⟨⟨_, _, _, _, _, _, _, _, rfl⟩, e⟩) (fun i σ' H' p => p.2) (fun i v σ' HA bk hi p => ?_) fun σ' HA p => ?_
    · rw [List.getElem?_map] at hi
      obtain ⟨z, hz, rfl⟩ := Option.map_eq_some_iff.mp hi
      obtain ⟨⟨x2, x9, x10, x11, x12, x13, x14, x15, rfl⟩, eA⟩ := p
      obtain ⟨⟨z', rr⟩, hm, rfl⟩ := List.mem_map.mp (show z ∈ ks.map fun p => p.1 from List.mem_of_getElem? hz)
      replace hm : (z', rr) ∈ ks := hm
      show tSeq _ _ _ [some (.ref sa), some (.ref pa), some (.str z'), some (.ref ka), some (.ref ia), some (.ref zl), some (.ref na), some (.ref la), some (.ref ga), x9, x10, x11, x12, x13, x14, x15, none, none, none, none, none] HA
      obtain ⟨f5, t1, t12⟩ := rowF z' rr hm
      obtain ⟨ok1, ok2⟩ := rowK z' rr hm
      have mle := many_le (r := rr) t1
      have m40 : many rr ≤ 40 := by omega
      have okp : ∀ p m, RowOk (pre rr p m) := fun p m => pre_ok ok1 ok2 p m
      refine q_asg (ev_size (K := K) (r := rr) fun H' e => knR rfl rfl hm (eA.trans e)) fun HB eB => ?_
      refine q_asgD (evd_rowsL (r := rr) (m := 40) (ev_tv rfl) (by omega) (fun _ => rfl) fun i H' hi e Q2 q2 => el_goes (knR rfl rfl hm (eA.trans (eB.trans e))) (fun _ _ => ev_tv rfl) (fun _ _ => ev_tc) t1 (by omega) (by omega) hi (by decide) Q2 q2) fun vr HC eC hvr => ?_
      refine q_asgL el_nil fun dl HD hdl eD hdlv => ?_
      have eAC := eA.trans (eB.trans eC)
      have eCD : Same HC HD := eD
      have hds : ∀ {p : Nat}, p < rr.1.length + rr.2.length → ((List.range (rr.1.length + rr.2.length)).map fun i => dL (pre rr i 40))[p]? = some (dL (pre rr p 40)) := fun hp => by
        rw [List.getElem?_map, List.getElem?_range hp]
        rfl
      refine q_forN1 (n := rr.1.length + rr.2.length) (ev_tv rfl) (by omega) (fun i σ' H' => (∃ x10 x13, σ' = [some (.ref sa), some (.ref pa), some (.str z'), some (.ref ka), some (.ref ia), some (.ref zl), some (.ref na), some (.ref la), some (.ref ga), some (.int ((rr.1.length + rr.2.length : Nat) : Int)), x10, some vr, some (.ref dl), x13, x14, x15, none, none, none, none, none]) ∧ InvD HC dl rr i H')
        (fun H' e => ⟨⟨_, _, rfl⟩, eCD.trans e, fun _ => 0, fun j hj => absurd hj (by rw [Nat.zero_min]; omega), fun j _ hj => absurd hj (by rw [Nat.zero_min]; omega), by rw [Nat.zero_min]; exact e _ _ hdlv⟩) (fun i σ' HE hi p => ?_) fun σ' HE p => ?_
      · obtain ⟨⟨x10, x13, rfl⟩, inv⟩ := p
        obtain ⟨eE, L, p2, p3, p4⟩ := inv
        have inv : InvD HC dl rr i HE := ⟨eE, L, p2, p3, p4⟩
        have hvr2 := hvr.go eE
        have xl : ((List.range (min i (many rr))).map fun j => V.ref (L j)).length = min i (many rr) := by rw [List.length_map, List.length_range]
        have xat : ∀ {k : Nat}, k < min i (many rr) → ((List.range (min i (many rr))).map fun j => V.ref (L j))[k]? = some (V.ref (L k)) := fun hk => by
          rw [List.getElem?_map, List.getElem?_range hk]
          rfl
        refine q_asgL (el_filt (K := K) (keep := fun k => decide (tpl rr i = k)) (ev_tv rfl) p4 (by rw [xl]; omega) (fun _ => rfl) (fun _ => rfl) fun kk v HF hk eF => ?_) fun nr HF hnr eF hnear => ?_
        · have hkl : kk < min i (many rr) := by
            have := (List.getElem?_eq_some_iff.mp hk).1
            omega
          rw [xat hkl] at hk
          cases hk
          have hk2 : kk < many rr := by omega
          have q3 := (p2 kk hkl).2.2
          have gh := grp_head t1 hkl
          have g0 : ∀ H', Same HF H' → Ev (tOp (rIxL K) (tVar 19) (tC (.int 0))) [some (.ref sa), some (.ref pa), some (.str z'), some (.ref ka), some (.ref ia), some (.ref zl), some (.ref na), some (.ref la), some (.ref ga), some (.int ((rr.1.length + rr.2.length : Nat) : Int)), some (.int (i : Nat)), some vr, some (.ref dl), x13, x14, x15, none, none, none, some (.ref (L kk)), none] H' (.int (kk : Nat)) := fun H' e Q q =>
            ⟨_, rfl, L kk, _, (0 : Nat), _, rfl, rfl, SqL.of (e _ _ (eF _ _ q3)), atI_nat (j := 0) (by rw [List.getElem?_map, gh]; rfl), q H' (Same.refl _)⟩
          refine evb_is (EvB.of' (ev_eqDD (K := K) (d := dL (pre rr kk 40)) (e := dL (pre rr i 40)) (evd_ixL (K := K) (i := kk) (evd_of (ev_tv rfl) (hvr2.go eF)) g0 (hds (by omega))) (fun H' e => evd_ixL (K := K) (i := i) (evd_of (ev_tv rfl) (hvr2.go (eF.trans e))) (fun _ _ => ev_tv rfl) (hds hi)) (dL_shaped (okp _ _)) (dL_shaped (okp _ _)))) ?_
          rw [eqv_dL]
          exact decide_eq_decide.mpr (pre_iff2 t1 m40 hk2)
        · rw [xl, filt_one] at hnear
          have invF := inv.go eF
          by_cases c : tpl rr i < min i (many rr)
          · rw [if_pos c] at hnear
            replace hnear : HF nr = some (.lst [(((List.range (min i (many rr))).map fun j => V.ref (L j))[tpl rr i]?).getD .non]) := hnear
            rw [xat c] at hnear
            obtain ⟨l, ⟨L', hL', rfl⟩, hgl, stp⟩ := invF.old t1 c hdl
            have eL : L' (tpl rr i) = L (tpl rr i) := by
              have a1 := eF _ _ p4
              rw [hL'] at a1
              have a2 := HO.lst.inj (Option.some.inj a1)
              have a3 := congrArg (fun xs => xs[tpl rr i]?) a2
              replace a3 : ((List.range (min i (many rr))).map fun j => V.ref (L' j))[tpl rr i]? = ((List.range (min i (many rr))).map fun j => V.ref (L j))[tpl rr i]? := a3
              rw [xat c, List.getElem?_map, List.getElem?_range c] at a3
              exact V.ref.inj (Option.some.inj a3)
            rw [eL] at hgl stp
            refine if_yes (evb_is (EvB.of' (ev_neDD (K := K) (d := dG [grp (tpl rr) i (tpl rr i)]) (e := .list []) (evd_of (ev_tv rfl) (.lst hnear (.cons (.lst hgl (dts_ints _)) .nil))) (fun _ _ => evd_lst0) (dG_shaped _) (dG_shaped []))) rfl) fun HG eG => ?_
            refine s_app (K := K) (l := L (tpl rr i)) (eG _ _ hgl) (fun Q q => ⟨_, rfl, nr, _, (0 : Nat), _, rfl, rfl, SqL.of (eG _ _ hnear), atI_nat (j := 0) rfl, q HG (Same.refl _)⟩) (fun _ _ => ev_tv rfl) (by rw [List.length_map]; have := grp_len (tpl rr) i (tpl rr i); omega) fun HI eI => ⟨⟨_, _, rfl⟩, stp HI (eG.trans eI)⟩
          · rw [if_neg c] at hnear
            obtain ⟨xs, hxs, hxl, stp⟩ := invF.new t1 c hdl
            refine if_no (evb_is (EvB.of' (ev_neDD (K := K) (d := dG []) (e := .list []) (evd_of (ev_tv rfl) (.lst hnear .nil)) (fun _ _ => evd_lst0) (dG_shaped _) (dG_shaped []))) rfl) fun HG eG => ?_
            refine s_appR (K := K) (l := dl) (xs := xs) (fun v H2 => ∃ l, v = .ref l ∧ HG l = none ∧ Same HG H2 ∧ H2 l = some (.lst [V.int (i : Nat)])) (eG _ _ hxs) (ev_tv rfl) (fun H' e Q q => ⟨_, rfl, by show 1 ≤ sizeLine; decide, fun l hl => q _ _ ⟨l, rfl, e.free hl, e.trans (same_upd hl), upd_same⟩⟩) (fun v H2 hv => ?_) (by omega) fun v H2 hv => ?_
            · obtain ⟨l, rfl, hl, e, _⟩ := hv
              exact e _ _ (eG _ _ hxs)
            · obtain ⟨l, rfl, hl, e, hx⟩ := hv
              exact ⟨⟨_, _, rfl⟩, stp H2 l (eG.trans e) (eG.free hl) hx⟩
      · obtain ⟨⟨x10, x13, rfl⟩, inv⟩ := p
        have eE := eAC.trans inv.1
        have hdue := inv.data
        have mg_ : groups rr (rr.1.length + rr.2.length) = groups rr (rr.1.length + rr.2.length) := rfl
        have gl : (groups rr (rr.1.length + rr.2.length)).length = many rr := by
          unfold groups
          rw [List.length_map, List.length_range]
          omega
        have galk : (ks.map fun p => (p.1, alk p.2)).lookup z' = some (dG (groups rr (rr.1.length + rr.2.length))) := by
          rw [← alk_dG t1]
          exact lk_get (fun p => alk p.2) nd hm
        obtain ⟨gvv, hgv, hgdt⟩ := hgd.get galk
        refine q_no (evb_is (EvB.of' (ev_neDD (K := K) (evd_ev (ev_dget (k := .inr z') (ev_tv rfl) (fun _ _ => ev_tv rfl) (eE _ _ hga) hgv) fun H' e => hgdt.go (eE.trans e)) (fun H' e => evd_of (ev_tv rfl) (hdue.go e)) (dG_shaped _) (dG_shaped _))) (by rw [SeqAt.eqv_refl _ (lay_dG _)]; rfl)) fun HF eF => ?_
        have eEF := eE.trans eF
        have hdueF := hdue.go eF
        have hvrF := hvr.go (inv.1.trans eF)
        have hmt := tks_mem hm
        obtain ⟨lv, hlv, hld⟩ := l3.get (kd_get stk.nd hmt)
        obtain ⟨la_, vf, vt, rfl, hla, hvf, hvt⟩ := dt_rows (hld.go eEF)
        refine q_unpack2 (K := K) (ev_dget (k := .inr z') (ev_fld (K := K) (ev_tv rfl) (eEF _ _ l1) T.tc.tx.cl T.tc.tx.nKnots kn_f) (fun _ _ => ev_tv rfl) (eEF _ _ l2) hlv) hla fun HG eG => ?_
        have eEG := eEF.trans eG
        obtain ⟨tid, tsq, tf, tt⟩ := Tidy.shr_is (f := rr.1) (t := rr.2) t1
        have tid : Tidy.TidyR (tr rr).1 (tr rr).2 := tid
        have tpos : 0 < (tr rr).2.length := tid.pos
        have tf' : (tr rr).1.length ≤ 5 := Nat.le_trans tf f5
        have tt' : (tr rr).2.length ≤ 12 := Nat.le_trans tt t12
        have okt := stk.g.rows _ hmt
        have okt := GRows.rowOk okt
        have mf := map_drop_len (tr rr).1
        have mt := map_drop_len (tr rr).2
        have lenF : ∀ {σ : L2.St} {H' : Hp}, σ[14]? = some (some vf) → Same HG H' → Ev (tCB (rLen K) (tCons (tVar 14) tNil)) σ H' (.int ((tr rr).1.length : Nat)) := fun h0 e => by
          have z := ev_lenTD (K := K) (te := tVar 14) (evd_of (ev_tv h0) (hvf.go (eG.trans e)))
          rw [mf] at z
          exact z
        have lenT : ∀ {σ : L2.St} {H' : Hp}, σ[15]? = some (some vt) → Same HG H' → Ev (tCB (rLen K) (tCons (tVar 15) tNil)) σ H' (.int ((tr rr).2.length : Nat)) := fun h0 e => by
          have z := ev_lenTD (K := K) (te := tVar 15) (evd_of (ev_tv h0) (hvt.go (eG.trans e)))
          rw [mt] at z
          exact z
        refine q_no (evb_is (EvB.or (EvB.of' (ev_ne (x := .int (((tr rr).1.length : Nat) + ((tr rr).2.length : Nat) : Int)) (y := .int (((groups rr (rr.1.length + rr.2.length)).map fun l => PyData.list (l.map fun p => .int (p : Nat))).length : Nat)) (ev_I0 (g := fun i j => .int (i + j)) (lenF rfl (Same.refl _)) fun H' e => lenT rfl e) (fun H' e => ev_lenDl (evd_of (ev_tv rfl) (hdueF.go (eG.trans e)))) rfl)) fun _ HH eH =>
          EvB.of' (ev_neDD (K := K) (d := dL (pre (tr rr) 0 40)) (e := dL (pre rr 0 40)) (evd_goes (r := tr rr) (p := 0) (m := 40) (latR rfl rfl hm (eEG.trans eH)) (fun _ _ => ev_tc) (fun _ _ => ev_tc) tpos (by omega) (by omega) (by omega) (by decide)) (fun H' e => evd_ixL (K := K) (i := 0) (evd_of (ev_tv rfl) (hvrF.go (eG.trans (eH.trans e)))) (fun _ _ => ev_tc) (hds (by omega))) (dL_shaped (pre_ok okt.1 okt.2 _ _)) (dL_shaped (okp _ _)))) ?_) fun HH eH => ?_
        · rw [pre_tr t1, eqv_dL, decide_eq_true rfl, List.length_map, gl]
          show ((!decide (V.int _ = V.int _)) || !true) = false
          rw [decide_eq_true]
          · rfl
          · show V.int (((tr rr).1.length : Nat) + ((tr rr).2.length : Nat) : Int) = V.int ((many rr : Nat) : Int)
            unfold many
            rw [Int.natCast_add]
        have vtH : ∀ H', Same HH H' → Dt H' vt (dRow (tr rr).2) := fun H' e => hvt.go (eG.trans (eH.trans e))
        have vfH : ∀ H', Same HH H' → Dt H' vf (dRow (tr rr).1) := fun H' e => hvf.go (eG.trans (eH.trans e))
        have last : ∀ {rw_ : Row} (h : 0 < rw_.length), ((rw_.map dDrop))[(rw_.map dDrop).length - 1]? = some (dDrop (rw_[rw_.length - 1]'(by omega))) := fun {rw_} h => by
          rw [List.length_map, List.getElem?_map, List.getElem?_eq_getElem (by omega)]
          rfl
        have anyF : ∀ H', Same HH H' → EvB (L2.tB (tCB (rAny K) (tCons (tLc (iRng2 (tCons (tC (.int 1)) (tCons (tCB (rLen K) (tCons (tVar 15) tNil)) tNil))) (gName 20) tYes (tOp (rEqD K) (tOp (rRepT1 K) (tSl (rSlA K) (tVar 15) tNoPart (tPart (tVar 20))) (tOp (rI CDiv fun i j => .int (i / j)) (tCB (rLen K) (tCons (tVar 15) tNil)) (tVar 20))) (tVar 15)) [20]) tNil))) [some (.ref sa), some (.ref pa), some (.str z'), some (.ref ka), some (.ref ia), some (.ref zl), some (.ref na), some (.ref la), some (.ref ga), some (.int ((rr.1.length + rr.2.length : Nat) : Int)), x10, some vr, some (.ref dl), x13, some vf, some vt, none, none, none, none, none] H' false := fun H' e => by
          have z := ev_any (K := K) (σ := [some (.ref sa), some (.ref pa), some (.str z'), some (.ref ka), some (.ref ia), some (.ref zl), some (.ref na), some (.ref la), some (.ref ga), some (.int ((rr.1.length + rr.2.length : Nat) : Int)), x10, some vr, some (.ref dl), x13, some vf, some vt, none, none, none, none, none]) (H := H') (tl := (tLc (iRng2 (tCons (tC (.int 1)) (tCons (tCB (rLen K) (tCons (tVar 15) tNil)) tNil))) (gName 20) tYes (tOp (rEqD K) (tOp (rRepT1 K) (tSl (rSlA K) (tVar 15) tNoPart (tPart (tVar 20))) (tOp (rI CDiv fun i j => .int (i / j)) (tCB (rLen K) (tCons (tVar 15) tNil)) (tVar 20))) (tVar 15)) [20])) (bs := List.replicate ((tr rr).2.length - 1) false) fun Q q => el_none (n := (tr rr).2.length - 1) (hi := (tr rr).2.length) ev_tc (fun H2 e2 => lenT rfl (eH.trans (e.trans e2))) (by omega) (by omega) (fun _ => rfl) (fun i H2 hi e2 => ev_again tid (by omega) (by omega) (by omega) okt.2 (fun H3 e3 => evd_of (ev_tv rfl) (vtH _ (e.trans (e2.trans e3)))) (fun _ _ => ev_tv rfl)) Q q
          have e0 : (List.replicate ((tr rr).2.length - 1) false).any id = false := by simp
          rw [e0] at z
          exact EvB.of z
        refine s_no (evb_is (EvB.or (a := false) (b := false) ?_ fun _ H' e => anyF H' e) rfl) fun HI eI => ⟨⟨_, _, _, _, _, _, _, _, rfl⟩, eEG.trans (eH.trans eI)⟩
        by_cases fe : (tr rr).1 = []
        · exact EvB.and (a := false) (b := false) (evb_is (EvB.of' (ev_neDD (K := K) (d := dRow (tr rr).1) (e := dRow []) (evd_of (ev_tv rfl) (vfH _ (Same.refl _))) (fun _ _ => evd_tup0) (row_shaped okt.1) (row_shaped (fun d hd => absurd hd (by simp))))) (by rw [eqv_row, decide_eq_true fe]; rfl)) fun z => absurd z (by decide)
        · have fl : 0 < (tr rr).1.length := List.length_pos_iff.mpr fe
          refine EvB.and (a := true) (b := false) (evb_is (EvB.of' (ev_neDD (K := K) (d := dRow (tr rr).1) (e := dRow []) (evd_of (ev_tv rfl) (vfH _ (Same.refl _))) (fun _ _ => evd_tup0) (row_shaped okt.1) (row_shaped (fun d hd => absurd hd (by simp))))) (by rw [eqv_row, decide_eq_false fe]; rfl)) fun _ H' e => ?_
          refine evb_is (EvB.of' (ev_eqDD (K := K) (evd_last (K := K) (evd_of (ev_tv rfl) (vfH _ e)) (last fl)) (fun H2 e2 => evd_last (K := K) (evd_of (ev_tv rfl) (vtH _ (e.trans e2))) (last tpos)) (drop_shaped (okt.1 _ (List.getElem_mem _))) (drop_shaped (okt.2 _ (List.getElem_mem _))))) ?_
          rw [eqv_drop]
          refine decide_eq_false fun ee => tid.last fl ?_
          rw [List.getElem?_eq_getElem (by omega), List.getElem?_eq_getElem (by omega), ee]
    · obtain ⟨⟨x2, x9, x10, x11, x12, x13, x14, x15, rfl⟩, eA⟩ := p
      refine q_forN1 (n := 4) ev_tc (by decide) (fun i σ' H' => (∃ x2 x9 x10 x11 x12 x13 x14 x15 x16 x17, σ' = [some (.ref sa), some (.ref pa), x2, some (.ref ka), some (.ref ia), some (.ref zl), some (.ref na), some (.ref la), some (.ref ga), x9, x10, x11, x12, x13, x14, x15, x16, x17, none, none, none]) ∧ Same H9 H') (fun H' e => ⟨⟨_, _, _, _, _, _, _, _, _, _, rfl⟩, eA.trans e⟩) (fun i σ' HB hi p => ?_) fun σ' HB p => ?_
      · obtain ⟨⟨x2, x9, x10, x11, x12, x13, x14, x15, x16, x17, rfl⟩, eB⟩ := p
        have hSB := Same.seqL eB hS5
        refine q_asgKR (ekr_dict (epr_enum (K := K) (zs := kn ks) (R := fun j d => ∃ g : Nat, d = .int (g : Nat) ∧ ∃ p, ks[j]? = some p ∧ g < p.2.1.length + p.2.2.length) (fun Q q => ⟨_, rfl, q zl HB (Same.refl _) (eB _ _ hzl5)⟩) (by omega) (fun j d hd H' H2 v ts hv => ?_) (fun _ _ => rfl) fun j z H2 hz e2 => ⟨ev_tv rfl, fun H3 e3 Q2 q2 => ?_⟩) nd) fun sd H2 skv sds hsd0 eC hsd hsdk hsz hsr => ?_
        · obtain ⟨g, rfl, _⟩ := hd
          cases hv
          exact .int _
        · obtain ⟨rr, hri⟩ : ∃ rr, ks[j]? = some (z, rr) := by
            unfold kn at hz
            rw [List.getElem?_map] at hz
            obtain ⟨p, hp, rfl⟩ := Option.map_eq_some_iff.mp hz
            exact ⟨p.2, hp⟩
          have hm := List.mem_of_getElem? hri
          obtain ⟨f5, t1, t12⟩ := rowF z rr hm
          have hil : j < ks.length := (List.getElem?_eq_some_iff.mp hri).1
          have ksl : ks.length = 1 + r := sk.len
          have e23 := eB.trans (e2.trans e3)
          refine dr (a := 400 + 9 * i + j) (m := rr.1.length + rr.2.length) (Same.seqL e23 hS5) rfl (fun H' e => ?_) (fun H' e => ev_size (K := K) (r := rr) fun H4 e4 => knR rfl rfl hm (e23.trans (e.trans e4))) (by omega) (by omega) (by omega) _ fun g H4 hg e4 => q2 _ _ H4 e4 ⟨g, rfl, _, hri, hg⟩ (.int _)
          have q := ev_I0 (g := fun i j => .int (i + j)) (ta := tOp (rI0 fun i j => .int (i + j)) (tC (.int 400)) (tOp (rI CMul fun i j => .int (i * j)) (tC (.int 9)) (tVar 15))) (tb := tVar 18) (σ := [some (.ref sa), some (.ref pa), some (.str z), some (.ref ka), some (.ref ia), some (.ref zl), some (.ref na), some (.ref la), some (.ref ga), x9, x10, x11, x12, x13, x14, some (.int (i : Nat)), x16, x17, some (.int (j : Nat)), none, none]) (H := H')
            (ev_I0 (g := fun i j => .int (i + j)) (ta := tC (.int 400)) ev_tc fun H5 _ => ev_I (C := CMul) (g := fun i j => .int (i * j)) (ta := tC (.int 9)) (tb := tVar 15) ev_tc (fun _ _ => ev_tv rfl) (.inl ⟨by omega, by omega⟩)) fun _ _ => ev_tv rfl
          have e3 : ((400 + 9 * i + j : Nat) : Int) = 400 + 9 * ((i : Nat) : Int) + ((j : Nat) : Int) := by omega
          rw [e3]
          exact q
        obtain ⟨g, rfl, hgl⟩ := st_of hsdk hsz hsr nd
        have eBC := eB.trans eC
        refine q_asgR (fun v H' => ∃ d, v = .ref d ∧ Same H2 H' ∧ H' d = some (.dK (ks.map fun p => (.inr p.1, .int (Tidy.st (tr p.2).1.length (tr p.2).2.length (g p.1) : Nat))))) (fun Q1 q1 => ?_) fun v HD hv => ?_
        · exact ⟨_, rfl, _, rfl, _, _, rfl, .inl ⟨na, 1 + r, ks, y, rfl, nn.go eBC, sk, hy, .inr ⟨sd, g, rfl, hsd, hgl, fun d H' _ e hx => q1 _ _ ⟨d, rfl, e, hx⟩⟩⟩⟩
        obtain ⟨td_, rfl, eD, htd⟩ := hv
        have eBD := eBC.trans eD
        have tkeys : (ks.map fun p => ((.inr p.1 : Key), V.int (Tidy.st (tr p.2).1.length (tr p.2).2.length (g p.1) : Nat))).map (·.1) = (kn ks).map Sum.inr := by
          unfold kn
          rw [List.map_map, List.map_map]
          rfl
        refine q_no (evb_is (EvB.of' (ev_neDD (K := K) (evd_ofL (el_listD (ev_tv rfl) htd tkeys) fun _ => Dts.strs _) (fun H9 e9 => evd_of (ev_tv rfl) (.lst ((eBD.trans e9) _ _ hzl5) (Dts.strs _))) snm snm)) (by rw [SeqAt.eqv_refl _ lnm]; rfl)) fun HE eE => ?_
        have eBE := eBD.trans eE
        refine s_forLV (K := K) (ev_tv rfl) (eBE _ _ hzl5) (fun l σ' H' => (∃ x2 x12 x13, σ' = [some (.ref sa), some (.ref pa), x2, some (.ref ka), some (.ref ia), some (.ref zl), some (.ref na), some (.ref la), some (.ref ga), x9, x10, x11, x12, x13, x14, some (.int (i : Nat)), some (.ref sd), some (.ref td_), none, none, none]) ∧ Same HE H') (fun H' e => ⟨⟨_, _, _, rfl⟩, e⟩) (fun i σ' H' p => p.2) (fun l v σ' HF bk hi p => ?_) fun σ' HF p => ?_
        · rw [List.getElem?_map] at hi
          obtain ⟨z, hz, rfl⟩ := Option.map_eq_some_iff.mp hi
          obtain ⟨⟨x2, x12, x13, rfl⟩, eF⟩ := p
          obtain ⟨⟨z', rr⟩, hm, rfl⟩ := List.mem_map.mp (show z ∈ ks.map fun p => p.1 from List.mem_of_getElem? hz)
          replace hm : (z', rr) ∈ ks := hm
          show tSeq _ _ _ [some (.ref sa), some (.ref pa), some (.str z'), some (.ref ka), some (.ref ia), some (.ref zl), some (.ref na), some (.ref la), some (.ref ga), x9, x10, x11, x12, x13, x14, some (.int (i : Nat)), some (.ref sd), some (.ref td_), none, none, none] HF
          obtain ⟨f5, t1, t12⟩ := rowF z' rr hm
          obtain ⟨ok1, ok2⟩ := rowK z' rr hm
          have mle := many_le (r := rr) t1
          have m40 : many rr ≤ 40 := by omega
          have okp : ∀ p m, RowOk (pre rr p m) := fun p m => pre_ok ok1 ok2 p m
          have hgz : g z' < rr.1.length + rr.2.length := hgl (z', rr) hm
          have eBF := eBE.trans eF
          have hsdF := eF _ _ (eE _ _ (eD _ _ hsd))
          have htdF := eF _ _ (eE _ _ htd)
          have hzk : z' ∈ kn ks := List.mem_map.mpr ⟨_, hm, rfl⟩
          have hmt := tks_mem hm
          obtain ⟨tid, tsq, tf, tt⟩ := Tidy.shr_is (f := rr.1) (t := rr.2) t1
          have tpos : 0 < (tr rr).2.length := tid.pos
          have tf' : (tr rr).1.length ≤ 5 := Nat.le_trans tf f5
          have tt' : (tr rr).2.length ≤ 12 := Nat.le_trans tt t12
          have okt := stk.g.rows _ hmt
          have okt := GRows.rowOk okt
          refine q_asgD (evd_goes (r := rr) (p := g z') (m := 40) (knR rfl rfl hm eBF) (fun H' e => ev_dget (k := .inr z') (ev_tv rfl) (fun _ _ => ev_tv rfl) (e _ _ hsdF) (stD_at hzk)) (fun _ _ => ev_tc) t1 (by omega) (by omega) hgz (by decide)) fun vd HG eG hvd => ?_
          refine q_asgL (el_filtR (n := (tr rr).1.length + (tr rr).2.length) (keep := fun j => decide (tpl rr (g z') = j)) (ev_size (K := K) (r := tr rr) fun H' e => latR rfl rfl hm (eBF.trans (eG.trans e))) (by omega) (fun _ => rfl) (fun _ => rfl) fun j H' hj e => ?_) fun nr HI hnr eI hnear => ?_
          · refine evb_is (EvB.of' (ev_eqDD (K := K) (d := dL (pre (tr rr) j 40)) (e := dL (pre rr (g z') 40)) (evd_goes (r := tr rr) (p := j) (m := 40) (latR rfl rfl hm (eBF.trans (eG.trans e))) (fun _ _ => ev_tv rfl) (fun _ _ => ev_tc) tpos (by omega) (by omega) hj (by decide)) (fun H2 e2 => evd_of (ev_tv rfl) (hvd.go (e.trans e2))) (dL_shaped (pre_ok okt.1 okt.2 _ _)) (dL_shaped (okp _ _)))) ?_
            rw [eqv_dL]
            exact decide_eq_decide.mpr (pre_iff t1 m40 hj)
          · rw [filt_one, if_pos (show tpl rr (g z') < (tr rr).1.length + (tr rr).2.length from tpl_lt t1 _)] at hnear
            have hvg : valV (ks.map fun p => ((.inr p.1 : Key), V.int (Tidy.st (tr p.2).1.length (tr p.2).2.length (g p.1) : Nat))) (.inr z') = some (V.int (tpl rr (g z') : Nat)) := vk_get (fun p => V.int (Tidy.st (tr p.2).1.length (tr p.2).2.length (g p.1) : Nat)) nd hm
            refine s_no (evb_is (EvB.or (a := false) (evb_is (EvB.of' (ev_eqDD (K := K) (d := .list ([tpl rr (g z')].map fun p => .int (p : Nat))) (e := .list []) (evd_of (ev_tv rfl) (.lst hnear (dts_ints [tpl rr (g z')]))) (fun _ _ => evd_lst0) (int1_shaped _) (int1_shaped []))) rfl) fun _ HJ eJ => EvB.of' (ev_ne (ev_dget (k := .inr z') (ev_tv rfl) (fun _ _ => ev_tv rfl) ((eG.trans (eI.trans eJ)) _ _ htdF) hvg) (fun HK eK Q q => ⟨_, rfl, nr, _, (0 : Nat), _, rfl, rfl, SqL.of ((eJ.trans eK) _ _ hnear), atI_nat (j := 0) rfl, q HK (Same.refl _)⟩) rfl)) (by rw [decide_eq_true rfl]; rfl)) fun HJ eJ => ⟨⟨_, _, _, rfl⟩, eF.trans (eG.trans (eI.trans eJ))⟩
        · obtain ⟨⟨x2, x12, x13, rfl⟩, eF⟩ := p
          exact ⟨⟨_, _, _, _, _, _, _, _, _, _, rfl⟩, eBE.trans eF⟩
      · obtain ⟨⟨x2, x9, x10, x11, x12, x13, x14, x15, x16, x17, rfl⟩, eB⟩ := p
        exact s_ret (v := .bl true) (fun Q q => ⟨_, rfl, _, rfl, na, zl, 1 + r, ks, y, rfl, nn.go eB, sk, hy, fun p hp => by
          obtain ⟨f5, t1, t12⟩ := rowF p.1 p.2 hp
          omega, eB _ _ hzl5, fun H' e => q H' e⟩) fun H' _ => k H'
end
end Bc

namespace Bc
open PySem L2
/-- an error of the class at S is what «except S» names -/
theorem exm_selfB {K : PySem.W.Frag} {S : Addr} (h1 : PySem.W.subIn K (.ref S) (.type "BaseException") = some true) (h2 : PySem.W.isClsIn K S = true) (h3 : PySem.W.typeIn K (.ref S) = some (.type "type")) (h4 : PySem.W.subIn K (.ref S) (.ref S) = some true) :
    PySem.W.exmOne K (.ref S) (.ref S) = some true := by
  have e1 : (PySem.W.subIn K (.ref S) (.type "BaseException") == some true) = true := by rw [h1] <;> rfl
  have e2 : ((PySem.W.clsIn K S).isSome && PySem.W.typeIn K (.ref S) == some (.type "type")) = true := by
    have h2' : (PySem.W.clsIn K S).isSome = true := h2
    rw [h2', h3] <;> rfl
  show (if (PySem.W.subIn K (.ref S) (.type "BaseException") == some true) = true then (if ((PySem.W.clsIn K S).isSome && PySem.W.typeIn K (.ref S) == some (.type "type")) = true then PySem.W.subIn K (.ref S) (.ref S) else none) else none) = some true
  rw [if_pos e1, if_pos e2]
  exact h4
set_option maxHeartbeats 8000000 in
theorem all_mk {l : PySem.W.OpenLaw} {w : World} {K : PySem.W.Frag} {h : Heap} {mg : Str → Option Value} {fa C : Addr} (X : K.In h) (G : h.Ns mainGlobals mg) (hfa : mg "law" = some (.ref fa))
    {f0 : Addr} {od0 an0 : Option Addr} {sl0 : Array (Option Value)} {oc0 kV0 dc0 pm0 cd0 ct0 : Value}
    {f1 : Addr} {od1 an1 : Option Addr} {sl1 : Array (Option Value)} {oc1 kV1 dc1 pm1 cd1 ct1 : Value}
    {f2 : Addr} {od2 an2 : Option Addr} {sl2 : Array (Option Value)} {oc2 kV2 dc2 pm2 cd2 ct2 : Value}
    {f3 : Addr} {od3 an3 : Option Addr} {sl3 : Array (Option Value)} {oc3 kV3 dc3 pm3 cd3 ct3 : Value}
    {f4 : Addr} {od4 an4 : Option Addr} {sl4 : Array (Option Value)} {oc4 kV4 dc4 pm4 cd4 ct4 : Value}
    {f5 : Addr} {od5 an5 : Option Addr} {sl5 : Array (Option Value)} {oc5 kV5 dc5 pm5 cd5 ct5 : Value}
    {f6 : Addr} {od6 an6 : Option Addr} {sl6 : Array (Option Value)} {oc6 kV6 dc6 pm6 cd6 ct6 : Value}
    {f7 : Addr} {od7 an7 : Option Addr} {sl7 : Array (Option Value)} {oc7 kV7 dc7 pm7 cd7 ct7 : Value}
    {f8 : Addr} {od8 an8 : Option Addr} {sl8 : Array (Option Value)} {oc8 kV8 dc8 pm8 cd8 ct8 : Value}
    {f9 : Addr} {od9 an9 : Option Addr} {sl9 : Array (Option Value)} {oc9 kV9 dc9 pm9 cd9 ct9 : Value}
    {f10 : Addr} {od10 an10 : Option Addr} {sl10 : Array (Option Value)} {oc10 kV10 dc10 pm10 cd10 ct10 : Value}
    {f11 : Addr} {od11 an11 : Option Addr} {sl11 : Array (Option Value)} {oc11 kV11 dc11 pm11 cd11 ct11 : Value}
    {f12 : Addr} {od12 an12 : Option Addr} {sl12 : Array (Option Value)} {oc12 kV12 dc12 pm12 cd12 ct12 : Value}
    {f13 : Addr} {od13 an13 : Option Addr} {sl13 : Array (Option Value)} {oc13 kV13 dc13 pm13 cd13 ct13 : Value}
    {f14 : Addr} {od14 an14 : Option Addr} {sl14 : Array (Option Value)} {oc14 kV14 dc14 pm14 cd14 ct14 : Value}
    {f15 : Addr} {od15 an15 : Option Addr} {sl15 : Array (Option Value)} {oc15 kV15 dc15 pm15 cd15 ct15 : Value}
    {f16 : Addr} {od16 an16 : Option Addr} {sl16 : Array (Option Value)} {oc16 kV16 dc16 pm16 cd16 ct16 : Value}
    {f17 : Addr} {od17 an17 : Option Addr} {sl17 : Array (Option Value)} {oc17 kV17 dc17 pm17 cd17 ct17 : Value}
    {f18 : Addr} {od18 an18 : Option Addr} {sl18 : Array (Option Value)} {oc18 kV18 dc18 pm18 cd18 ct18 : Value}
    {f19 : Addr} {od19 an19 : Option Addr} {sl19 : Array (Option Value)} {oc19 kV19 dc19 pm19 cd19 ct19 : Value}
    {f20 : Addr} {od20 an20 : Option Addr} {sl20 : Array (Option Value)} {oc20 kV20 dc20 pm20 cd20 ct20 : Value}
    {f21 : Addr} {od21 an21 : Option Addr} {sl21 : Array (Option Value)} {oc21 kV21 dc21 pm21 cd21 ct21 : Value}
    {f22 : Addr} {od22 an22 : Option Addr} {sl22 : Array (Option Value)} {oc22 kV22 dc22 pm22 cd22 ct22 : Value}
    {f23 : Addr} {od23 an23 : Option Addr} {sl23 : Array (Option Value)} {oc23 kV23 dc23 pm23 cd23 ct23 : Value}
    {f24 : Addr} {od24 an24 : Option Addr} {sl24 : Array (Option Value)} {oc24 kV24 dc24 pm24 cd24 ct24 : Value}
    {f25 : Addr} {od25 an25 : Option Addr} {sl25 : Array (Option Value)} {oc25 kV25 dc25 pm25 cd25 ct25 : Value}
    {f26 : Addr} {od26 an26 : Option Addr} {sl26 : Array (Option Value)} {oc26 kV26 dc26 pm26 cd26 ct26 : Value}
    {f27 : Addr} {od27 an27 : Option Addr} {sl27 : Array (Option Value)} {oc27 kV27 dc27 pm27 cd27 ct27 : Value}
    {f28 : Addr} {od28 an28 : Option Addr} {sl28 : Array (Option Value)} {oc28 kV28 dc28 pm28 cd28 ct28 : Value}
    {f29 : Addr} {od29 an29 : Option Addr} {sl29 : Array (Option Value)} {oc29 kV29 dc29 pm29 cd29 ct29 : Value}
    {f30 : Addr} {od30 an30 : Option Addr} {sl30 : Array (Option Value)} {oc30 kV30 dc30 pm30 cd30 ct30 : Value}
    {f31 : Addr} {od31 an31 : Option Addr} {sl31 : Array (Option Value)} {oc31 kV31 dc31 pm31 cd31 ct31 : Value}
    {f32 : Addr} {od32 an32 : Option Addr} {sl32 : Array (Option Value)} {oc32 kV32 dc32 pm32 cd32 ct32 : Value}
    {t0 t1 t2 t3 t4 t5 : Tok}
    {nm q : Str} {N : Addr} {bs bm : List Value} {hdct : Bool} {sn : List Str} {sub : List Value} {ab : Bool} {col : Option Bool} {dd : Option Addr} {m0 m1 m2 m3 m5 : Option Value} {newId : String}
    {B fI cc cda : Addr} {file : Str} {bnm bq : Str} {bN : Addr} {bbs bbm : List Value} {bsn : List Str} {bsub : List Value} {bab : Bool} {bcol : Option Bool} {bdd : Option Addr} {b0 b1 b2 b3 b5 : Option Value}
    {boc bdoc bpm bct : Value} {bod ban : Option Addr} {bosl : Array (Option Value)} {p1 p2 : Pos} {ccl : Value} {cdd : Option Addr} {vs : Array Value} {ccs : Array (Option Value)} {tf : Tok} {cl : Value} {cld : Option Addr} {csl : Array (Option Value)}
    {Ch : Addr} {cnm cq : Str} {cN : Addr} {cbs cbm : List Value} {chd : Bool} {csn : List Str} {csub : List Value} {cab : Bool} {ccol : Option Bool} {cdd2 : Option Addr} {c_0 c_1 c_2 c_3 c_5 : Option Value} {cId : String}
    {S : Addr}
    (aC : PySem.W.nsIn K mainGlobals "Net" = some (some (.ref C)))
    (a0 : PySem.W.nsIn K mainGlobals "leaders" = some (some (.ref f0)))
    (l0 : K.lookup f0 = some ⟨oc0, od0, .func (PySem.W.fnOf "leaders" "leaders" (defArgs sLeaders) (defBody sLeaders) (defScope sLeaders) .none kV0 dc0 pm0 an0 cd0 ct0), sl0⟩)
    (c0 : PySem.W.codeIn K cd0 "leaders" = true)
    (k0 : PySem.W.keepIn K (.ref f0) = true)
    (a1 : PySem.W.nsIn K mainGlobals "met_by_turn" = some (some (.ref f1)))
    (l1 : K.lookup f1 = some ⟨oc1, od1, .func (PySem.W.fnOf "met_by_turn" "met_by_turn" (defArgs sMet) (defBody sMet) (defScope sMet) .none kV1 dc1 pm1 an1 cd1 ct1), sl1⟩)
    (c1 : PySem.W.codeIn K cd1 "met_by_turn" = true)
    (k1 : PySem.W.keepIn K (.ref f1) = true)
    (a2 : PySem.W.nsIn K mainGlobals "check_kinds" = some (some (.ref f2)))
    (l2 : K.lookup f2 = some ⟨oc2, od2, .func (PySem.W.fnOf "check_kinds" "check_kinds" (defArgs sKinds) (defBody sKinds) (defScope sKinds) .none kV2 dc2 pm2 an2 cd2 ct2), sl2⟩)
    (c2 : PySem.W.codeIn K cd2 "check_kinds" = true)
    (k2 : PySem.W.keepIn K (.ref f2) = true)
    (a3 : PySem.W.nsIn K mainGlobals "check_names" = some (some (.ref f3)))
    (l3 : K.lookup f3 = some ⟨oc3, od3, .func (PySem.W.fnOf "check_names" "check_names" (defArgs sNames) (defBody sNames) (defScope sNames) .none kV3 dc3 pm3 an3 cd3 ct3), sl3⟩)
    (c3 : PySem.W.codeIn K cd3 "check_names" = true)
    (k3 : PySem.W.keepIn K (.ref f3) = true)
    (a4 : PySem.W.nsIn K mainGlobals "is_name" = some (some (.ref f4)))
    (l4 : K.lookup f4 = some ⟨oc4, od4, .func (PySem.W.fnOf "is_name" "is_name" (defArgs sIsName) (defBody sIsName) (defScope sIsName) .none kV4 dc4 pm4 an4 cd4 ct4), sl4⟩)
    (c4 : PySem.W.codeIn K cd4 "is_name" = true)
    (k4 : PySem.W.keepIn K (.ref f4) = true)
    (a5 : PySem.W.nsIn K mainGlobals "check_rows" = some (some (.ref f5)))
    (l5 : K.lookup f5 = some ⟨oc5, od5, .func (PySem.W.fnOf "check_rows" "check_rows" (defArgs sRows) (defBody sRows) (defScope sRows) .none kV5 dc5 pm5 an5 cd5 ct5), sl5⟩)
    (c5 : PySem.W.codeIn K cd5 "check_rows" = true)
    (k5 : PySem.W.keepIn K (.ref f5) = true)
    (a6 : PySem.W.nsIn K mainGlobals "are_rows" = some (some (.ref f6)))
    (l6 : K.lookup f6 = some ⟨oc6, od6, .func (PySem.W.fnOf "are_rows" "are_rows" (defArgs sAreRows) (defBody sAreRows) (defScope sAreRows) .none kV6 dc6 pm6 an6 cd6 ct6), sl6⟩)
    (c6 : PySem.W.codeIn K cd6 "are_rows" = true)
    (k6 : PySem.W.keepIn K (.ref f6) = true)
    (a7 : PySem.W.nsIn K mainGlobals "is_row" = some (some (.ref f7)))
    (l7 : K.lookup f7 = some ⟨oc7, od7, .func (PySem.W.fnOf "is_row" "is_row" (defArgs sIsRow) (defBody sIsRow) (defScope sIsRow) .none kV7 dc7 pm7 an7 cd7 ct7), sl7⟩)
    (c7 : PySem.W.codeIn K cd7 "is_row" = true)
    (k7 : PySem.W.keepIn K (.ref f7) = true)
    (a8 : PySem.W.nsIn K mainGlobals "is_drop" = some (some (.ref f8)))
    (l8 : K.lookup f8 = some ⟨oc8, od8, .func (PySem.W.fnOf "is_drop" "is_drop" (defArgs sIsDrop) (defBody sIsDrop) (defScope sIsDrop) .none kV8 dc8 pm8 an8 cd8 ct8), sl8⟩)
    (c8 : PySem.W.codeIn K cd8 "is_drop" = true)
    (k8 : PySem.W.keepIn K (.ref f8) = true)
    (a9 : PySem.W.nsIn K mainGlobals "check_inlets" = some (some (.ref f9)))
    (l9 : K.lookup f9 = some ⟨oc9, od9, .func (PySem.W.fnOf "check_inlets" "check_inlets" (defArgs sInlets) (defBody sInlets) (defScope sInlets) .none kV9 dc9 pm9 an9 cd9 ct9), sl9⟩)
    (c9 : PySem.W.codeIn K cd9 "check_inlets" = true)
    (k9 : PySem.W.keepIn K (.ref f9) = true)
    (a10 : PySem.W.nsIn K mainGlobals "check_met" = some (some (.ref f10)))
    (l10 : K.lookup f10 = some ⟨oc10, od10, .func (PySem.W.fnOf "check_met" "check_met" (defArgs sChMet) (defBody sChMet) (defScope sChMet) .none kV10 dc10 pm10 an10 cd10 ct10), sl10⟩)
    (c10 : PySem.W.codeIn K cd10 "check_met" = true)
    (k10 : PySem.W.keepIn K (.ref f10) = true)
    (a11 : PySem.W.nsIn K mainGlobals "_law_draw" = some (some (.ref f11)))
    (l11 : K.lookup f11 = some ⟨oc11, od11, .func (PySem.W.fnOf "_law_draw" "_law_draw" (defArgs sDraw) (defBody sDraw) (defScope sDraw) .none kV11 dc11 pm11 an11 cd11 ct11), sl11⟩)
    (c11 : PySem.W.codeIn K cd11 "_law_draw" = true)
    (k11 : PySem.W.keepIn K (.ref f11) = true)
    (a12 : PySem.W.nsIn K mainGlobals "_law_knots" = some (some (.ref f12)))
    (l12 : K.lookup f12 = some ⟨oc12, od12, .func (PySem.W.fnOf "_law_knots" "_law_knots" (defArgs sLKnots) (defBody sLKnots) (defScope sLKnots) .none kV12 dc12 pm12 an12 cd12 ct12), sl12⟩)
    (c12 : PySem.W.codeIn K cd12 "_law_knots" = true)
    (k12 : PySem.W.keepIn K (.ref f12) = true)
    (a13 : PySem.W.nsIn K mainGlobals "_law_inlets" = some (some (.ref f13)))
    (l13 : K.lookup f13 = some ⟨oc13, od13, .func (PySem.W.fnOf "_law_inlets" "_law_inlets" (defArgs sLInlets) (defBody sLInlets) (defScope sLInlets) .none kV13 dc13 pm13 an13 cd13 ct13), sl13⟩)
    (c13 : PySem.W.codeIn K cd13 "_law_inlets" = true)
    (k13 : PySem.W.keepIn K (.ref f13) = true)
    (a14 : PySem.W.nsIn K mainGlobals "is_number" = some (some (.ref f14)))
    (l14 : K.lookup f14 = some ⟨oc14, od14, .func (PySem.W.fnOf "is_number" "is_number" (defArgs sIsNum) (defBody sIsNum) (defScope sIsNum) .none kV14 dc14 pm14 an14 cd14 ct14), sl14⟩)
    (c14 : PySem.W.codeIn K cd14 "is_number" = true)
    (k14 : PySem.W.keepIn K (.ref f14) = true)
    (a15 : PySem.W.nsIn K mainGlobals "check_net" = some (some (.ref f15)))
    (l15 : K.lookup f15 = some ⟨oc15, od15, .func (PySem.W.fnOf "check_net" "check_net" (defArgs sChNet) (defBody sChNet) (defScope sChNet) .none kV15 dc15 pm15 an15 cd15 ct15), sl15⟩)
    (c15 : PySem.W.codeIn K cd15 "check_net" = true)
    (k15 : PySem.W.keepIn K (.ref f15) = true)
    (a16 : PySem.W.nsIn K mainGlobals "is_standing" = some (some (.ref f16)))
    (l16 : K.lookup f16 = some ⟨oc16, od16, .func (PySem.W.fnOf "is_standing" "is_standing" (defArgs sIsSt) (defBody sIsSt) (defScope sIsSt) .none kV16 dc16 pm16 an16 cd16 ct16), sl16⟩)
    (c16 : PySem.W.codeIn K cd16 "is_standing" = true)
    (k16 : PySem.W.keepIn K (.ref f16) = true)
    (a17 : PySem.W.nsIn K mainGlobals "check_standing" = some (some (.ref f17)))
    (l17 : K.lookup f17 = some ⟨oc17, od17, .func (PySem.W.fnOf "check_standing" "check_standing" (defArgs sChSt) (defBody sChSt) (defScope sChSt) .none kV17 dc17 pm17 an17 cd17 ct17), sl17⟩)
    (c17 : PySem.W.codeIn K cd17 "check_standing" = true)
    (k17 : PySem.W.keepIn K (.ref f17) = true)
    (a18 : PySem.W.nsIn K mainGlobals "shortest_rows" = some (some (.ref f18)))
    (l18 : K.lookup f18 = some ⟨oc18, od18, .func (PySem.W.fnOf "shortest_rows" "shortest_rows" (defArgs sShort) (defBody sShort) (defScope sShort) .none kV18 dc18 pm18 an18 cd18 ct18), sl18⟩)
    (c18 : PySem.W.codeIn K cd18 "shortest_rows" = true)
    (k18 : PySem.W.keepIn K (.ref f18) = true)
    (a19 : PySem.W.nsIn K mainGlobals "least_period" = some (some (.ref f19)))
    (l19 : K.lookup f19 = some ⟨oc19, od19, .func (PySem.W.fnOf "least_period" "least_period" (defArgs sLeast) (defBody sLeast) (defScope sLeast) .none kV19 dc19 pm19 an19 cd19 ct19), sl19⟩)
    (c19 : PySem.W.codeIn K cd19 "least_period" = true)
    (k19 : PySem.W.keepIn K (.ref f19) = true)
    (a20 : PySem.W.nsIn K mainGlobals "is_tidy" = some (some (.ref f20)))
    (l20 : K.lookup f20 = some ⟨oc20, od20, .func (PySem.W.fnOf "is_tidy" "is_tidy" (defArgs sIsTidy) (defBody sIsTidy) (defScope sIsTidy) .none kV20 dc20 pm20 an20 cd20 ct20), sl20⟩)
    (c20 : PySem.W.codeIn K cd20 "is_tidy" = true)
    (k20 : PySem.W.keepIn K (.ref f20) = true)
    (a21 : PySem.W.nsIn K mainGlobals "tidied" = some (some (.ref f21)))
    (l21 : K.lookup f21 = some ⟨oc21, od21, .func (PySem.W.fnOf "tidied" "tidied" (defArgs sTidied) (defBody sTidied) (defScope sTidied) .none kV21 dc21 pm21 an21 cd21 ct21), sl21⟩)
    (c21 : PySem.W.codeIn K cd21 "tidied" = true)
    (k21 : PySem.W.keepIn K (.ref f21) = true)
    (a22 : PySem.W.nsIn K mainGlobals "tidied_standing" = some (some (.ref f22)))
    (l22 : K.lookup f22 = some ⟨oc22, od22, .func (PySem.W.fnOf "tidied_standing" "tidied_standing" (defArgs sTidSt) (defBody sTidSt) (defScope sTidSt) .none kV22 dc22 pm22 an22 cd22 ct22), sl22⟩)
    (c22 : PySem.W.codeIn K cd22 "tidied_standing" = true)
    (k22 : PySem.W.keepIn K (.ref f22) = true)
    (a23 : PySem.W.nsIn K mainGlobals "alike_places" = some (some (.ref f23)))
    (l23 : K.lookup f23 = some ⟨oc23, od23, .func (PySem.W.fnOf "alike_places" "alike_places" (defArgs sAlike) (defBody sAlike) (defScope sAlike) .none kV23 dc23 pm23 an23 cd23 ct23), sl23⟩)
    (c23 : PySem.W.codeIn K cd23 "alike_places" = true)
    (k23 : PySem.W.keepIn K (.ref f23) = true)
    (a24 : PySem.W.nsIn K mainGlobals "_law_goes_on" = some (some (.ref f24)))
    (l24 : K.lookup f24 = some ⟨oc24, od24, .func (PySem.W.fnOf "_law_goes_on" "_law_goes_on" (defArgs sGoes) (defBody sGoes) (defScope sGoes) .none kV24 dc24 pm24 an24 cd24 ct24), sl24⟩)
    (c24 : PySem.W.codeIn K cd24 "_law_goes_on" = true)
    (k24 : PySem.W.keepIn K (.ref f24) = true)
    (a25 : PySem.W.nsIn K mainGlobals "_law_padded" = some (some (.ref f25)))
    (l25 : K.lookup f25 = some ⟨oc25, od25, .func (PySem.W.fnOf "_law_padded" "_law_padded" (defArgs sPad) (defBody sPad) (defScope sPad) .none kV25 dc25 pm25 an25 cd25 ct25), sl25⟩)
    (c25 : PySem.W.codeIn K cd25 "_law_padded" = true)
    (k25 : PySem.W.keepIn K (.ref f25) = true)
    (a26 : PySem.W.nsIn K mainGlobals "_law_refused" = some (some (.ref f26)))
    (l26 : K.lookup f26 = some ⟨oc26, od26, .func (PySem.W.fnOf "_law_refused" "_law_refused" (defArgs sRef) (defBody sRef) (defScope sRef) .none kV26 dc26 pm26 an26 cd26 ct26), sl26⟩)
    (c26 : PySem.W.codeIn K cd26 "_law_refused" = true)
    (k26 : PySem.W.keepIn K (.ref f26) = true)
    (a27 : PySem.W.nsIn K mainGlobals "law" = some (some (.ref f27)))
    (l27 : K.lookup f27 = some ⟨oc27, od27, .func (PySem.W.fnOf "law" "law" (defArgs sLaw) (defBody sLaw) (defScope sLaw) .none kV27 dc27 pm27 an27 cd27 ct27), sl27⟩)
    (c27 : PySem.W.codeIn K cd27 "law" = true)
    (k27 : PySem.W.keepIn K (.ref f27) = true)
    (a28 : PySem.W.findIn K (.ref C) "__init__" = some (some (.ref f28)))
    (i28 : PySem.W.isFn K (.ref f28) = true)
    (l28 : K.lookup f28 = some ⟨oc28, od28, .func (PySem.W.fnOf "__init__" "Net.__init__" (defArgs sInit) (defBody sInit) (defScope sInit) .none kV28 dc28 pm28 an28 cd28 ct28), sl28⟩)
    (c28 : PySem.W.codeIn K cd28 "Net.__init__" = true)
    (k28 : PySem.W.keepIn K (.ref f28) = true)
    (a29 : PySem.W.findIn K (.ref C) "place_behind" = some (some (.ref f29)))
    (i29 : PySem.W.isFn K (.ref f29) = true)
    (l29 : K.lookup f29 = some ⟨oc29, od29, .func (PySem.W.fnOf "place_behind" "Net.place_behind" (defArgs sPB) (defBody sPB) (defScope sPB) .none kV29 dc29 pm29 an29 cd29 ct29), sl29⟩)
    (c29 : PySem.W.codeIn K cd29 "Net.place_behind" = true)
    (k29 : PySem.W.keepIn K (.ref f29) = true)
    (a30 : PySem.W.findIn K (.ref C) "__len__" = some (some (.ref f30)))
    (i30 : PySem.W.isFn K (.ref f30) = true)
    (l30 : K.lookup f30 = some ⟨oc30, od30, .func (PySem.W.fnOf "__len__" "Net.__len__" (defArgs sLen) (defBody sLen) (defScope sLen) .none kV30 dc30 pm30 an30 cd30 ct30), sl30⟩)
    (c30 : PySem.W.codeIn K cd30 "Net.__len__" = true)
    (k30 : PySem.W.keepIn K (.ref f30) = true)
    (a31 : PySem.W.findIn K (.ref C) "__contains__" = some (some (.ref f31)))
    (i31 : PySem.W.isFn K (.ref f31) = true)
    (l31 : K.lookup f31 = some ⟨oc31, od31, .func (PySem.W.fnOf "__contains__" "Net.__contains__" (defArgs sHas) (defBody sHas) (defScope sHas) .none kV31 dc31 pm31 an31 cd31 ct31), sl31⟩)
    (c31 : PySem.W.codeIn K cd31 "Net.__contains__" = true)
    (k31 : PySem.W.keepIn K (.ref f31) = true)
    (a32 : PySem.W.findIn K (.ref C) "__eq__" = some (some (.ref f32)))
    (i32 : PySem.W.isFn K (.ref f32) = true)
    (l32 : K.lookup f32 = some ⟨oc32, od32, .func (PySem.W.fnOf "__eq__" "Net.__eq__" (defArgs sEq) (defBody sEq) (defScope sEq) .none kV32 dc32 pm32 an32 cd32 ct32), sl32⟩)
    (c32 : PySem.W.codeIn K cd32 "Net.__eq__" = true)
    (k32 : PySem.W.keepIn K (.ref f32) = true)
    (z_isinstance : PySem.W.nsIn K mainGlobals "isinstance" = some none)
    (z_len : PySem.W.nsIn K mainGlobals "len" = some none)
    (z_all : PySem.W.nsIn K mainGlobals "all" = some none)
    (z_sorted : PySem.W.nsIn K mainGlobals "sorted" = some none)
    (z_list : PySem.W.nsIn K mainGlobals "list" = some none)
    (z_tuple : PySem.W.nsIn K mainGlobals "tuple" = some none)
    (z_dict : PySem.W.nsIn K mainGlobals "dict" = some none)
    (z_str : PySem.W.nsIn K mainGlobals "str" = some none)
    (z_int : PySem.W.nsIn K mainGlobals "int" = some none)
    (z_range : PySem.W.nsIn K mainGlobals "range" = some none)
    (z_enumerate : PySem.W.nsIn K mainGlobals "enumerate" = some none)
    (z_any : PySem.W.nsIn K mainGlobals "any" = some none)
    (z_bool : PySem.W.nsIn K mainGlobals "bool" = some none)
    (z_super : PySem.W.nsIn K mainGlobals "super" = some none)
    (y_mKnots : PySem.W.nsIn K mainGlobals "MOST_KNOTS" = some (some (.int 12 t0)))
    (y_mDrops : PySem.W.nsIn K mainGlobals "MOST_DROPS" = some (some (.int 12 t1)))
    (y_mTargets : PySem.W.nsIn K mainGlobals "MOST_TARGETS" = some (some (.int 4 t2)))
    (y_mSigns : PySem.W.nsIn K mainGlobals "MOST_SIGNS" = some (some (.int 16 t3)))
    (y_letters : PySem.W.nsIn K mainGlobals "LETTERS" = some (some (.str "abcdefghijklmnopqrstuvwxyz" t4)))
    (y_signs : PySem.W.nsIn K mainGlobals "SIGNS" = some (some (.str "abcdefghijklmnopqrstuvwxyz0123456789." t5)))
    (pg : PySem.W.plainGet K C Str.empty = true)
    (hd : PySem.W.hasDictIn K C = true)
    (po : PySem.W.plainOver K C = true)
    (sa : PySem.W.findIn K (.ref C) "__setattr__" = some (some (.builtin "object.__setattr__")))
    (mk : PySem.W.makesIn K C = true)
    (kc : PySem.W.keepIn K (.ref C) = true)
    (n_knots : PySem.W.findIn K (.ref C) "knots" = some none)
    (n_inlets : PySem.W.findIn K (.ref C) "inlets" = some none)
    (n_outlets : PySem.W.findIn K (.ref C) "outlets" = some none)
    (xne : PySem.W.findIn K (.ref C) "__ne__" = some (some (.builtin "object.__ne__")))
    (xob : K.lookup C = some (excClassObj nm q C N bs bm hdct sn sub ab col dd m0 m1 m2 m3 m5 newId))
    (xbm : bm.contains (.type "object") = true)
    (xiC : PySem.W.findIn K (.ref C) "__class__" = some (some (.builtin "object.__class__")))
    (xiS : PySem.W.specialIn K (.builtin "object.__class__") "__get__" = some (some (.builtin "getset_descriptor.__get__")))
    (xiT : PySem.W.takesIn K (.builtin "object.__class__") = some true)
    (xiM : PySem.W.mroIn K C (.type "object") = some true)
    (xisO : PySem.W.kitOne K (.ref C) (.ref C) = some true)
    (xisI : PySem.W.kitOne K (.type "int") (.ref C) = some false)
    (xisD : PySem.W.kitOne K (.type "dict") (.ref C) = some false)
    (xisN : PySem.W.kitOne K (.type "NoneType") (.ref C) = some false)
    (xisS : PySem.W.kitOne K (.type "str") (.ref C) = some false)
    (xnfI : PySem.W.notFirst K C (.type "int") = true)
    (xnfD : PySem.W.notFirst K C (.type "dict") = true)
    (bC : PySem.W.nsIn K mainGlobals "BadNet" = some (some (.ref B)))
    (bL : K.lookup B = some (excClassObj bnm bq B bN bbs bbm true bsn bsub bab bcol bdd b0 b1 b2 b3 b5 "ValueError.__new__"))
    (bR : PySem.HandSPX.refsVE bbm = true)
    (chC : PySem.W.nsIn K mainGlobals "ChuteError" = some (some (.ref Ch)))
    (chL : K.lookup Ch = some (excClassObj cnm cq Ch cN cbs cbm chd csn csub cab ccol cdd2 c_0 c_1 c_2 c_3 c_5 cId))
    (chF : PySem.W.findIn K (.ref Ch) "__init__" = some (some (.builtin "ValueError.__init__")))
    (bE : (List.dropWhile (· != .ref B) (.ref B :: bbm)).drop 1 = .ref Ch :: cbm)
    (bSa : PySem.W.findIn K (.ref B) "__setattr__" = some (some (.builtin "object.__setattr__")))
    (bNo : PySem.W.findIn K (.ref B) "name" = some none)
    (bIc : PySem.W.findIn K (.ref B) "__init__" = some (some (.ref fI)))
    (bTc : PySem.W.typeIn K (.ref fI) = some (.type "function"))
    (bIn : PySem.W.subIn K (.ref B) (.type "ValueError") = some true)
    (bSs : PySem.W.mroIn K B (.ref B) = some true)
    (bOp : PySem.W.nsIn K cStatics "thirdparty.any" = some none)
    (bFn : K.lookup fI = some ⟨boc, bod, .func (PySem.W.ksFn "__init__" "BadNet.__init__" (PySem.Bn.tA p1 p2) (PySem.Bn.tB PySem.Bn.P0) PySem.Bn.tS .none .none bdoc bpm ban (.ref cda) bct cc), bosl⟩)
    (bCo : PySem.W.codeIn K (.ref cda) "BadNet.__init__" = true)
    (bCd : K.lookup cda = some ⟨ccl, cdd, .fields vs, ccs⟩)
    (bFl : vs[2]? = some (.str file tf))
    (bCe : K.lookup cc = some ⟨cl, cld, .cell (some (.ref B)), csl⟩)
    (bKc : PySem.W.keepIn K (.ref B) = true)
    (bEx : PySem.W.subIn K (.ref B) (.type "BaseException") = some true)
    (bTy : PySem.W.typeIn K (.ref B) = some (.type "type"))
    (bIs : PySem.W.isClsIn K B = true)
    (bSb : PySem.W.subIn K (.ref B) (.ref B) = some true)
    (bGa : PySem.W.findIn K (.ref B) "__getattribute__" = some (some (.builtin "BaseException.__getattribute__")))
    (bGg : PySem.W.findIn K (.ref B) "__getattr__" = some none)
    (bHd : PySem.W.hasDictIn K B = true)
    (bFi : ((l.prog.main.file : Str) == file) = true)
    (bTo : (l.prog.main.scope.names.lookup ("super" : Str)).isSome = false)
    (sC : PySem.W.nsIn K mainGlobals "BadStanding" = some (some (.ref S)))
    (sX : PySem.W.excIn K S [.type "ValueError", .type "Exception", .type "BaseException", .type "object"] "ValueError.__new__" = true)
    (sK : PySem.W.keepIn K (.ref S) = true)
    (sB : PySem.W.subIn K (.ref S) (.type "BaseException") = some true)
    (sT : PySem.W.typeIn K (.ref S) = some (.type "type"))
    (sIs : PySem.W.isClsIn K S = true)
    (sSb : PySem.W.subIn K (.ref S) (.ref S) = some true) :
    ∃ fd : FuncData, (∀ (s : Shared) (v : Value), BindsTo s fd ⟨[v], []⟩ [("script", v)]) ∧ ∀ base : Heap, K.In base → base.Ns mainGlobals mg → FnOk l.prog w K mg base CX0 11 fa fd ["script"] (spLaw K) := by
  obtain rfl : f27 = fa := by
    have e := hfa.symm.trans (PySem.W.mg_of X G a27)
    cases e
    rfl
  let ad : Ad := { leaders := f0, met := f1, kinds := f2, names := f3, isName := f4, rows := f5, areRows := f6, isRow := f7, isDrop := f8, inlets := f9, chMet := f10, draw := f11, lKnots := f12, lInlets := f13, isNum := f14, chNet := f15, isSt := f16, chSt := f17, short := f18, least := f19, isTidy := f20, tidied := f21, tidSt := f22, alike := f23, goes := f24, pad := f25, refd := f26, law := f27, init := f28, pb := f29, len := f30, has := f31, eq := f32, cNet := C, cStd := S, cBad := B, badInit := fI, cellBad := cc, codeBad := cda, fileBad := file, dLeaders := PySem.W.fnOf "leaders" "leaders" (defArgs sLeaders) (defBody sLeaders) (defScope sLeaders) .none kV0 dc0 pm0 an0 cd0 ct0, dMet := PySem.W.fnOf "met_by_turn" "met_by_turn" (defArgs sMet) (defBody sMet) (defScope sMet) .none kV1 dc1 pm1 an1 cd1 ct1, dKinds := PySem.W.fnOf "check_kinds" "check_kinds" (defArgs sKinds) (defBody sKinds) (defScope sKinds) .none kV2 dc2 pm2 an2 cd2 ct2, dNames := PySem.W.fnOf "check_names" "check_names" (defArgs sNames) (defBody sNames) (defScope sNames) .none kV3 dc3 pm3 an3 cd3 ct3, dIsName := PySem.W.fnOf "is_name" "is_name" (defArgs sIsName) (defBody sIsName) (defScope sIsName) .none kV4 dc4 pm4 an4 cd4 ct4, dRows := PySem.W.fnOf "check_rows" "check_rows" (defArgs sRows) (defBody sRows) (defScope sRows) .none kV5 dc5 pm5 an5 cd5 ct5, dAreRows := PySem.W.fnOf "are_rows" "are_rows" (defArgs sAreRows) (defBody sAreRows) (defScope sAreRows) .none kV6 dc6 pm6 an6 cd6 ct6, dIsRow := PySem.W.fnOf "is_row" "is_row" (defArgs sIsRow) (defBody sIsRow) (defScope sIsRow) .none kV7 dc7 pm7 an7 cd7 ct7, dIsDrop := PySem.W.fnOf "is_drop" "is_drop" (defArgs sIsDrop) (defBody sIsDrop) (defScope sIsDrop) .none kV8 dc8 pm8 an8 cd8 ct8, dInlets := PySem.W.fnOf "check_inlets" "check_inlets" (defArgs sInlets) (defBody sInlets) (defScope sInlets) .none kV9 dc9 pm9 an9 cd9 ct9, dChMet := PySem.W.fnOf "check_met" "check_met" (defArgs sChMet) (defBody sChMet) (defScope sChMet) .none kV10 dc10 pm10 an10 cd10 ct10, dDraw := PySem.W.fnOf "_law_draw" "_law_draw" (defArgs sDraw) (defBody sDraw) (defScope sDraw) .none kV11 dc11 pm11 an11 cd11 ct11, dLKnots := PySem.W.fnOf "_law_knots" "_law_knots" (defArgs sLKnots) (defBody sLKnots) (defScope sLKnots) .none kV12 dc12 pm12 an12 cd12 ct12, dLInlets := PySem.W.fnOf "_law_inlets" "_law_inlets" (defArgs sLInlets) (defBody sLInlets) (defScope sLInlets) .none kV13 dc13 pm13 an13 cd13 ct13, dIsNum := PySem.W.fnOf "is_number" "is_number" (defArgs sIsNum) (defBody sIsNum) (defScope sIsNum) .none kV14 dc14 pm14 an14 cd14 ct14, dChNet := PySem.W.fnOf "check_net" "check_net" (defArgs sChNet) (defBody sChNet) (defScope sChNet) .none kV15 dc15 pm15 an15 cd15 ct15, dIsSt := PySem.W.fnOf "is_standing" "is_standing" (defArgs sIsSt) (defBody sIsSt) (defScope sIsSt) .none kV16 dc16 pm16 an16 cd16 ct16, dChSt := PySem.W.fnOf "check_standing" "check_standing" (defArgs sChSt) (defBody sChSt) (defScope sChSt) .none kV17 dc17 pm17 an17 cd17 ct17, dShort := PySem.W.fnOf "shortest_rows" "shortest_rows" (defArgs sShort) (defBody sShort) (defScope sShort) .none kV18 dc18 pm18 an18 cd18 ct18, dLeast := PySem.W.fnOf "least_period" "least_period" (defArgs sLeast) (defBody sLeast) (defScope sLeast) .none kV19 dc19 pm19 an19 cd19 ct19, dIsTidy := PySem.W.fnOf "is_tidy" "is_tidy" (defArgs sIsTidy) (defBody sIsTidy) (defScope sIsTidy) .none kV20 dc20 pm20 an20 cd20 ct20, dTidied := PySem.W.fnOf "tidied" "tidied" (defArgs sTidied) (defBody sTidied) (defScope sTidied) .none kV21 dc21 pm21 an21 cd21 ct21, dTidSt := PySem.W.fnOf "tidied_standing" "tidied_standing" (defArgs sTidSt) (defBody sTidSt) (defScope sTidSt) .none kV22 dc22 pm22 an22 cd22 ct22, dAlike := PySem.W.fnOf "alike_places" "alike_places" (defArgs sAlike) (defBody sAlike) (defScope sAlike) .none kV23 dc23 pm23 an23 cd23 ct23, dGoes := PySem.W.fnOf "_law_goes_on" "_law_goes_on" (defArgs sGoes) (defBody sGoes) (defScope sGoes) .none kV24 dc24 pm24 an24 cd24 ct24, dPad := PySem.W.fnOf "_law_padded" "_law_padded" (defArgs sPad) (defBody sPad) (defScope sPad) .none kV25 dc25 pm25 an25 cd25 ct25, dRefd := PySem.W.fnOf "_law_refused" "_law_refused" (defArgs sRef) (defBody sRef) (defScope sRef) .none kV26 dc26 pm26 an26 cd26 ct26, dLaw := PySem.W.fnOf "law" "law" (defArgs sLaw) (defBody sLaw) (defScope sLaw) .none kV27 dc27 pm27 an27 cd27 ct27, dInit := PySem.W.fnOf "__init__" "Net.__init__" (defArgs sInit) (defBody sInit) (defScope sInit) .none kV28 dc28 pm28 an28 cd28 ct28, dPB := PySem.W.fnOf "place_behind" "Net.place_behind" (defArgs sPB) (defBody sPB) (defScope sPB) .none kV29 dc29 pm29 an29 cd29 ct29, dLen := PySem.W.fnOf "__len__" "Net.__len__" (defArgs sLen) (defBody sLen) (defScope sLen) .none kV30 dc30 pm30 an30 cd30 ct30, dHas := PySem.W.fnOf "__contains__" "Net.__contains__" (defArgs sHas) (defBody sHas) (defScope sHas) .none kV31 dc31 pm31 an31 cd31 ct31, dEq := PySem.W.fnOf "__eq__" "Net.__eq__" (defArgs sEq) (defBody sEq) (defScope sEq) .none kV32 dc32 pm32 an32 cd32 ct32 }
  have T : Tx K mg ad := { isinstance := PySem.W.mg_none_of X G z_isinstance, len := PySem.W.mg_none_of X G z_len, all := PySem.W.mg_none_of X G z_all, sorted := PySem.W.mg_none_of X G z_sorted, list := PySem.W.mg_none_of X G z_list, tuple := PySem.W.mg_none_of X G z_tuple, dict := PySem.W.mg_none_of X G z_dict, str := PySem.W.mg_none_of X G z_str, int := PySem.W.mg_none_of X G z_int, range := PySem.W.mg_none_of X G z_range, enumerate := PySem.W.mg_none_of X G z_enumerate, any := PySem.W.mg_none_of X G z_any, bool := PySem.W.mg_none_of X G z_bool, mKnots := ⟨_, PySem.W.mg_of X G y_mKnots⟩, mDrops := ⟨_, PySem.W.mg_of X G y_mDrops⟩, mTargets := ⟨_, PySem.W.mg_of X G y_mTargets⟩, mSigns := ⟨_, PySem.W.mg_of X G y_mSigns⟩, letters := ⟨_, PySem.W.mg_of X G y_letters⟩, signs := ⟨_, PySem.W.mg_of X G y_signs⟩, gLeaders := PySem.W.mg_of X G a0, fLeaders := fun_mk (st := sLeaders) l0 c0 k0, gMet := PySem.W.mg_of X G a1, fMet := fun_mk (st := sMet) l1 c1 k1, gKinds := PySem.W.mg_of X G a2, fKinds := fun_mk (st := sKinds) l2 c2 k2, gNames := PySem.W.mg_of X G a3, fNames := fun_mk (st := sNames) l3 c3 k3, gIsName := PySem.W.mg_of X G a4, fIsName := fun_mk (st := sIsName) l4 c4 k4, gRows := PySem.W.mg_of X G a5, fRows := fun_mk (st := sRows) l5 c5 k5, gAreRows := PySem.W.mg_of X G a6, fAreRows := fun_mk (st := sAreRows) l6 c6 k6, gIsRow := PySem.W.mg_of X G a7, fIsRow := fun_mk (st := sIsRow) l7 c7 k7, gIsDrop := PySem.W.mg_of X G a8, fIsDrop := fun_mk (st := sIsDrop) l8 c8 k8, gInlets := PySem.W.mg_of X G a9, fInlets := fun_mk (st := sInlets) l9 c9 k9, gChMet := PySem.W.mg_of X G a10, fChMet := fun_mk (st := sChMet) l10 c10 k10, gDraw := PySem.W.mg_of X G a11, fDraw := fun_mk (st := sDraw) l11 c11 k11, gLKnots := PySem.W.mg_of X G a12, fLKnots := fun_mk (st := sLKnots) l12 c12 k12, gLInlets := PySem.W.mg_of X G a13, fLInlets := fun_mk (st := sLInlets) l13 c13 k13, gIsNum := PySem.W.mg_of X G a14, fIsNum := fun_mk (st := sIsNum) l14 c14 k14, gChNet := PySem.W.mg_of X G a15, fChNet := fun_mk (st := sChNet) l15 c15 k15, gIsSt := PySem.W.mg_of X G a16, fIsSt := fun_mk (st := sIsSt) l16 c16 k16, gChSt := PySem.W.mg_of X G a17, fChSt := fun_mk (st := sChSt) l17 c17 k17, gShort := PySem.W.mg_of X G a18, fShort := fun_mk (st := sShort) l18 c18 k18, gLeast := PySem.W.mg_of X G a19, fLeast := fun_mk (st := sLeast) l19 c19 k19, gIsTidy := PySem.W.mg_of X G a20, fIsTidy := fun_mk (st := sIsTidy) l20 c20 k20, gTidied := PySem.W.mg_of X G a21, fTidied := fun_mk (st := sTidied) l21 c21 k21, gTidSt := PySem.W.mg_of X G a22, fTidSt := fun_mk (st := sTidSt) l22 c22 k22, gAlike := PySem.W.mg_of X G a23, fAlike := fun_mk (st := sAlike) l23 c23 k23, gGoes := PySem.W.mg_of X G a24, fGoes := fun_mk (st := sGoes) l24 c24 k24, gPad := PySem.W.mg_of X G a25, fPad := fun_mk (st := sPad) l25 c25 k25, gRef := PySem.W.mg_of X G a26, fRef := fun_mk (st := sRef) l26 c26 k26, fInit := fun_mk (st := sInit) l28 c28 k28, fPB := fun_mk (st := sPB) l29 c29 k29, fLen := fun_mk (st := sLen) l30 c30 k30, fHas := fun_mk (st := sHas) l31 c31 k31, fEq := fun_mk (st := sEq) l32 c32 k32, gNet := PySem.W.mg_of X G aC, cl := ⟨pg, hd, po, sa⟩, mkN := ⟨mk, a28, i28, kc⟩, mPB := ⟨a29, i29, k29⟩, iLen := a30, iHas := a31, iEq := a32, nKnots := n_knots, nInlets := n_inlets, nOutlets := n_outlets }
  have U : Tc K mg ad := { tx := T, oLen := ⟨a30, i30⟩, oHas := ⟨a31, i31⟩, oEq := ⟨a32, i32⟩, ne := xne, obj := ⟨nm, q, N, bs, bm, hdct, sn, sub, ab, col, dd, m0, m1, m2, m3, m5, newId, xob, xbm⟩, iC := xiC, iS := xiS, iT := xiT, iM := xiM, isO := xisO, isI := xisI, isD := xisD, isN := xisN, isS := xisS, nfI := xnfI, nfD := xnfD }
  have bA : PySem.W.alongIn K "__init__" ((List.dropWhile (· != .ref B) (.ref B :: bbm)).drop 1) = some (some (.builtin "ValueError.__init__")) := by
    rw [bE, ← chF]
    unfold PySem.W.findIn
    dsimp only
    rw [chL]
  have Bd : PySem.Bn.Txt K mg B fI cc cda file := { gC := PySem.W.mg_of X G bC, cls := ⟨bnm, bq, bN, bbs, bbm, bsn, bsub, bab, bcol, bdd, b0, b1, b2, b3, b5, bL, bR, bA⟩, sa := bSa, noN := bNo, iC := bIc, tC := bTc, inst := bIn, selfS := bSs, op := bOp, fn := ⟨boc, bod, bdoc, bpm, ban, bct, bosl, p1, p2, bFn, bCo⟩, code := ⟨ccl, cdd, vs, ccs, tf, bCd, bFl⟩, cell := ⟨cl, cld, csl, bCe⟩, noS := PySem.W.mg_none_of X G z_super }
  have W : Tb l.prog K mg ad := { tc := U, bad := Bd, kC := bKc, exC := bEx, tyC := bTy, te := exm_selfB bEx bIs bTy bSb, file_ := bFi, top_ := bTo, xf := ⟨bGa, bGg, bEx, bHd⟩, gS := PySem.W.mg_of X G sC, xS := sX, kS := sK, bS := sB, tS := sT, teS := exm_selfB sB sIs sT sSb }
  exact ⟨PySem.W.fnOf "law" "law" (defArgs sLaw) (defBody sLaw) (defScope sLaw) .none kV27 dc27 pm27 an27 cd27 ct27, fun s v => .of_eq rfl, fun base _ _ => ok_law (ad := ad) W (fun_mk (st := sLaw) l27 c27 k27)⟩
theorem walk {l : PySem.W.OpenLaw} {q : Program} {loose : List Str} {XP : (Str → Option Value) → Heap → Prop} {YP : World → Heap → Prop} {d : DefRec} {K : Params → PySem.W.Frag} (hn : l.most = some 63) (hdf : d.params.defaults = [])
    (hY : ∀ (w : World) (h : Heap), YP w h → (K w.params).In h)
    (F : ∀ (w : World) (mg : Str → Option Value) (fa : Addr) (h : Heap), (K w.params).In h → h.Ns mainGlobals mg → mg d.name = some (.ref fa) →
      ∃ fd : FuncData, (∀ (s : Shared) (u : Value), BindsTo s fd ⟨[u], []⟩ [("script", u)]) ∧ ∀ base : Heap, (K w.params).In base → base.Ns mainGlobals mg → FnOk l.prog w (K w.params) mg base CX0 11 fa fd ["script"] (spLaw (K w.params))) :
    PySem.W.WalkO q loose XP YP l.row.toRowW d [] (fun f vs => PySem.call f vs) :=
  L2.walk_of (n := 63) (k := 11) (x := "script") (CX := fun _ => CX0) (sp := fun w => spLaw (K w.params)) hn (by decide) hdf ⟨rfl, by decide, by decide⟩ hY F (fun _ _ a ns hl _ hS => ⟨a, ns, rfl, hS, hl, fun _ => rfl⟩) fun _ _ _ _ _ z => z
end Bc


open PySem PySem.W PyProof.Rows in
set_option maxRecDepth 100000 in
set_option maxHeartbeats 0 in
theorem PySem.Challenge.cw_ballchutes_k25_whole_tidy_knots_holds : PySem.Challenge.rw_ballchutes_k25_whole_tidy_knots.Holds := by
  w_on; o_law; k_head; (case hw => w_witness2)
  k_fill
  refine Bc.walk (l := PySem.Challenge.rw_ballchutes_k25_whole_tidy_knots) rfl rfl (fun w h Y => PySem.W.kIn_of Y) ?F
  case F =>
    intro w mg fa h KX G hmg
    refine' Bc.all_mk (l := PySem.Challenge.rw_ballchutes_k25_whole_tidy_knots) KX G hmg ?aC ?a0 ?l0 ?c0 ?k0 ?a1 ?l1 ?c1 ?k1 ?a2 ?l2 ?c2 ?k2 ?a3 ?l3 ?c3 ?k3 ?a4 ?l4 ?c4 ?k4 ?a5 ?l5 ?c5 ?k5 ?a6 ?l6 ?c6 ?k6 ?a7 ?l7 ?c7 ?k7 ?a8 ?l8 ?c8 ?k8 ?a9 ?l9 ?c9 ?k9 ?a10 ?l10 ?c10 ?k10 ?a11 ?l11 ?c11 ?k11 ?a12 ?l12 ?c12 ?k12 ?a13 ?l13 ?c13 ?k13 ?a14 ?l14 ?c14 ?k14 ?a15 ?l15 ?c15 ?k15 ?a16 ?l16 ?c16 ?k16 ?a17 ?l17 ?c17 ?k17 ?a18 ?l18 ?c18 ?k18 ?a19 ?l19 ?c19 ?k19 ?a20 ?l20 ?c20 ?k20 ?a21 ?l21 ?c21 ?k21 ?a22 ?l22 ?c22 ?k22 ?a23 ?l23 ?c23 ?k23 ?a24 ?l24 ?c24 ?k24 ?a25 ?l25 ?c25 ?k25 ?a26 ?l26 ?c26 ?k26 ?a27 ?l27 ?c27 ?k27 ?a28 ?i28 ?l28 ?c28 ?k28 ?a29 ?i29 ?l29 ?c29 ?k29 ?a30 ?i30 ?l30 ?c30 ?k30 ?a31 ?i31 ?l31 ?c31 ?k31 ?a32 ?i32 ?l32 ?c32 ?k32 ?z_isinstance ?z_len ?z_all ?z_sorted ?z_list ?z_tuple ?z_dict ?z_str ?z_int ?z_range ?z_enumerate ?z_any ?z_bool ?z_super ?y_mKnots ?y_mDrops ?y_mTargets ?y_mSigns ?y_letters ?y_signs ?pg ?hd ?po ?sa ?mk ?kc ?n_knots ?n_inlets ?n_outlets ?xne ?xob ?xbm ?xiC ?xiS ?xiT ?xiM ?xisO ?xisI ?xisD ?xisN ?xisS ?xnfI ?xnfD ?bC ?bL ?bR ?chC ?chL ?chF ?bE ?bSa ?bNo ?bIc ?bTc ?bIn ?bSs ?bOp ?bFn ?bCo ?bCd ?bFl ?bCe ?bKc ?bEx ?bTy ?bIs ?bSb ?bGa ?bGg ?bHd ?bFi ?bTo ?sC ?sX ?sK ?sB ?sT ?sIs ?sSb
    (case aC => k_is)
    (case a0 => k_is)
    (case l0 => k_is)
    (case c0 => k_is)
    (case k0 => k_is)
    (case a1 => k_is)
    (case l1 => k_is)
    (case c1 => k_is)
    (case k1 => k_is)
    (case a2 => k_is)
    (case l2 => k_is)
    (case c2 => k_is)
    (case k2 => k_is)
    (case a3 => k_is)
    (case l3 => k_is)
    (case c3 => k_is)
    (case k3 => k_is)
    (case a4 => k_is)
    (case l4 => k_is)
    (case c4 => k_is)
    (case k4 => k_is)
    (case a5 => k_is)
    (case l5 => k_is)
    (case c5 => k_is)
    (case k5 => k_is)
    (case a6 => k_is)
    (case l6 => k_is)
    (case c6 => k_is)
    (case k6 => k_is)
    (case a7 => k_is)
    (case l7 => k_is)
    (case c7 => k_is)
    (case k7 => k_is)
    (case a8 => k_is)
    (case l8 => k_is)
    (case c8 => k_is)
    (case k8 => k_is)
    (case a9 => k_is)
    (case l9 => k_is)
    (case c9 => k_is)
    (case k9 => k_is)
    (case a10 => k_is)
    (case l10 => k_is)
    (case c10 => k_is)
    (case k10 => k_is)
    (case a11 => k_is)
    (case l11 => k_is)
    (case c11 => k_is)
    (case k11 => k_is)
    (case a12 => k_is)
    (case l12 => k_is)
    (case c12 => k_is)
    (case k12 => k_is)
    (case a13 => k_is)
    (case l13 => k_is)
    (case c13 => k_is)
    (case k13 => k_is)
    (case a14 => k_is)
    (case l14 => k_is)
    (case c14 => k_is)
    (case k14 => k_is)
    (case a15 => k_is)
    (case l15 => k_is)
    (case c15 => k_is)
    (case k15 => k_is)
    (case a16 => k_is)
    (case l16 => k_is)
    (case c16 => k_is)
    (case k16 => k_is)
    (case a17 => k_is)
    (case l17 => k_is)
    (case c17 => k_is)
    (case k17 => k_is)
    (case a18 => k_is)
    (case l18 => k_is)
    (case c18 => k_is)
    (case k18 => k_is)
    (case a19 => k_is)
    (case l19 => k_is)
    (case c19 => k_is)
    (case k19 => k_is)
    (case a20 => k_is)
    (case l20 => k_is)
    (case c20 => k_is)
    (case k20 => k_is)
    (case a21 => k_is)
    (case l21 => k_is)
    (case c21 => k_is)
    (case k21 => k_is)
    (case a22 => k_is)
    (case l22 => k_is)
    (case c22 => k_is)
    (case k22 => k_is)
    (case a23 => k_is)
    (case l23 => k_is)
    (case c23 => k_is)
    (case k23 => k_is)
    (case a24 => k_is)
    (case l24 => k_is)
    (case c24 => k_is)
    (case k24 => k_is)
    (case a25 => k_is)
    (case l25 => k_is)
    (case c25 => k_is)
    (case k25 => k_is)
    (case a26 => k_is)
    (case l26 => k_is)
    (case c26 => k_is)
    (case k26 => k_is)
    (case a27 => k_is)
    (case l27 => k_is)
    (case c27 => k_is)
    (case k27 => k_is)
    (case a28 => k_is)
    (case i28 => k_is)
    (case l28 => k_is)
    (case c28 => k_is)
    (case k28 => k_is)
    (case a29 => k_is)
    (case i29 => k_is)
    (case l29 => k_is)
    (case c29 => k_is)
    (case k29 => k_is)
    (case a30 => k_is)
    (case i30 => k_is)
    (case l30 => k_is)
    (case c30 => k_is)
    (case k30 => k_is)
    (case a31 => k_is)
    (case i31 => k_is)
    (case l31 => k_is)
    (case c31 => k_is)
    (case k31 => k_is)
    (case a32 => k_is)
    (case i32 => k_is)
    (case l32 => k_is)
    (case c32 => k_is)
    (case k32 => k_is)
    (case z_isinstance => k_is)
    (case z_len => k_is)
    (case z_all => k_is)
    (case z_sorted => k_is)
    (case z_list => k_is)
    (case z_tuple => k_is)
    (case z_dict => k_is)
    (case z_str => k_is)
    (case z_int => k_is)
    (case z_range => k_is)
    (case z_enumerate => k_is)
    (case z_any => k_is)
    (case z_bool => k_is)
    (case z_super => k_is)
    (case y_mKnots => k_is)
    (case y_mDrops => k_is)
    (case y_mTargets => k_is)
    (case y_mSigns => k_is)
    (case y_letters => k_is)
    (case y_signs => k_is)
    (case pg => k_is)
    (case hd => k_is)
    (case po => k_is)
    (case sa => k_is)
    (case mk => k_is)
    (case kc => k_is)
    (case n_knots => k_is)
    (case n_inlets => k_is)
    (case n_outlets => k_is)
    (case xne => k_is)
    (case xob => k_is)
    (case xbm => decide +kernel)
    (case xiC => k_is)
    (case xiS => k_is)
    (case xiT => k_is)
    (case xiM => k_is)
    (case xisO => kit_is)
    (case xisI => kit_is)
    (case xisD => kit_is)
    (case xisN => kit_is)
    (case xisS => kit_is)
    (case xnfI => k_is)
    (case xnfD => k_is)
    (case bC => k_is)
    (case bL => k_is)
    (case bR => decide +kernel)
    (case chC => k_is)
    (case chL => k_is)
    (case chF => k_is)
    (case bE => first | rfl | decide +kernel)
    (case bSa => k_is)
    (case bNo => k_is)
    (case bIc => k_is)
    (case bTc => k_is)
    (case bIn => k_is)
    (case bSs => k_is)
    (case bOp => k_is)
    (case bFn => k_is)
    (case bCo => k_is)
    (case bCd => k_is)
    (case bFl => rfl)
    (case bCe => k_is)
    (case bKc => k_is)
    (case bEx => k_is)
    (case bTy => k_is)
    (case bIs => k_is)
    (case bSb => k_is)
    (case bGa => k_is)
    (case bGg => k_is)
    (case bHd => k_is)
    (case bFi => first | rfl | decide +kernel)
    (case bTo => first | rfl | decide +kernel)
    (case sC => k_is)
    (case sX => k_exc)
    (case sK => k_is)
    (case sB => k_is)
    (case sT => k_is)
    (case sIs => k_is)
    (case sSb => k_is)
