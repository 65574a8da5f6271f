import PyProof.Rows.All
import Wide.All
import OpenK.AllK
import Wide.FinOn
import KE.KExcSuper
import KE.KSuper
import PyProof.FString
import PyProof.FString4
import PyProof.ReprStr
import HandS.ForExc
import PyProof.EqAt
import PyProof.EqKinds
import PyProof.TupleCall
import HandS.ForMost
import HandS.IsInst
import HandS.DictComp
import HandS.SetKeys
import HandS.More
import HandS.Conv
import HandS.TupAny
import HandS.ListItems
import HandS.Style
import HandS.Star
import HandS.Wide
import HandS.DeepEq
import PySem.Challenge.RW_ballchutes_k07_refused_nets
import HandS.Walk
import HandS.ExcField
import PyProof.Rows.SortShell
import KE.KSortTup
import HandS.Sort
import HandS.SortOrd
import HandS.SortRule
import PyProof.InstEq
import PyProof.InstNe
import OpenK.KMeth
import OpenK.KOps
import PyProof.EnumMake
import PyProof.Draws
import PyProof.ListStr
import HandS.RevTup
import HandS.Rev
import PyProof.ListNew
import HandS.TupMul
set_option Elab.async false
set_option linter.all false
set_option maxRecDepth 100000
set_option maxHeartbeats 4000000
/-! BadNet(x): what is made -/
namespace PySem
namespace Bn
open PySem.W PySem.Calls PyProof.Rows PySem.HandSPX
/-! ### the text of __init__, its places as they come -/
def tA (p1 p2 : Pos) : Arguments := { posonlyargs := [], args := [{ arg := "self", annotation := none, pos := p1 }, { arg := "name", annotation := none, pos := p2 }], vararg := none, kwonlyargs := [], kw_defaults := [], kwarg := none, defaults := [] }
structure Ps where (a1 a2 a3 a4 a5 j1 j2 j3 j4 b1 b2 b3 b4 : Pos)
def P0 : Ps := ⟨⟨10, 8, 10, 13⟩, ⟨10, 8, 10, 15⟩, ⟨10, 8, 10, 24⟩, ⟨10, 8, 10, 53⟩, ⟨10, 8, 10, 53⟩, ⟨10, 27, 10, 43⟩, ⟨10, 44, 10, 48⟩, ⟨10, 43, 10, 51⟩, ⟨10, 25, 10, 52⟩, ⟨11, 8, 11, 12⟩, ⟨11, 8, 11, 17⟩, ⟨11, 20, 11, 24⟩, ⟨11, 8, 11, 24⟩⟩
def tJ (p : Ps) : Expr := .JoinedStr [.Constant (.str "this is no net: ") 0 p.j1, .FormattedValue (.Name "name" p.j2) 114 none p.j3] p.j4
def tB (p : Ps) : List Stmt := [.Expr (.Call (.Attribute (.Call (.Name "super" p.a1) [] [] p.a2) "__init__" p.a3) [tJ p] [] p.a4) p.a5, .Assign [.Attribute (.Name "self" p.b1) "name" p.b2] (.Name "name" p.b3) p.b4]
def tS : Scope := { kind := .function, names := [(PySem.Str.ofString "self", .local), (PySem.Str.ofString "name", .local), (PySem.Str.ofString "__class__", .free), (PySem.Str.ofString "super", .globalImplicit)], isGenerator := false, isCoroutine := false, more := [] }
/-- a name that may be told: a short text, or None -/
inductive Told : Value → Prop
  | none : Told .none
  | str (x : Str) (t : Tok) : (reprText x).length ≤ 10000000 → Told (.str x t)
/-- BadNet at C, its __init__ at fI, the cell of its class at cc, its code at cda -/
structure Txt (K : Frag) (mg : Str → Option Value) (C fI cc cda : Addr) (file : Str) : Prop where
  gC : mg "BadNet" = some (.ref C)
  cls : ∃ nm q N bs bm sn sub ab col dd k0 k1 k2 k3 k5, K.lookup C = some (excClassObj nm q C N bs bm true sn sub ab col dd k0 k1 k2 k3 k5 "ValueError.__new__") ∧ refsVE bm = true ∧ alongIn K "__init__" ((List.dropWhile (· != .ref C) (.ref C :: bm)).drop 1) = some (some (.builtin "ValueError.__init__"))
  sa : findIn K (.ref C) "__setattr__" = some (some (.builtin "object.__setattr__"))
  noN : findIn K (.ref C) "name" = some none
  iC : findIn K (.ref C) "__init__" = some (some (.ref fI))
  tC : typeIn K (.ref fI) = some (.type "function")
  inst : subIn K (.ref C) (.type "ValueError") = some true
  selfS : mroIn K C (.ref C) = some true
  op : nsIn K cStatics "thirdparty.any" = some none
  fn : ∃ (oc : Value) (od : Option Addr) (doc pm : Value) (an : Option Addr) (ct : Value) (osl : Array (Option Value)) (p1 p2 : Pos),
    K.lookup fI = some ⟨oc, od, .func (ksFn "__init__" "BadNet.__init__" (tA p1 p2) (tB P0) tS .none .none doc pm an (.ref cda) ct cc), osl⟩ ∧ codeIn K (.ref cda) "BadNet.__init__" = true
  code : ∃ ccl cdd vs ccs tf, K.lookup cda = some ⟨ccl, cdd, .fields vs, ccs⟩ ∧ vs[2]? = some (.str file tf)
  cell : ∃ cl cld csl, K.lookup cc = some ⟨cl, cld, .cell (some (.ref C)), csl⟩
  noS : mg "super" = none
/-- a fresh exception at x after its __init__ -/
structure Done (h h' : Heap) (x C dx t1 : Addr) (v : Value) : Prop where
  keep : ∀ b o, b ≠ x → h.get? b = some o → h'.get? b = some o
  obj : h'.get? x = some { cls := .ref C, dict := some dx, data := .fields #[.ref t1, .none, .none, .none, .bool false, .none] }
  dbig : h.objs.size ≤ dx
  dne : dx ≠ x
  ns : h'.Ns1 dx (fun y => if y = "name" then some v else none)
section
variable {prog : Program} {w : World} {A : Around} {E : Value → Shared → Prop} {R : Result → Shared → Prop} {s : Shared} {K : Frag} {mg mb : Str → Option Value} {C fI cc cda : Addr} {file : Str}
/-- the text told -/
theorem eval_text {env : Env} {p : Ps} {v : Value} {m : Str → Option Value} {Q : Value → Shared → Prop} (hn : s.heap.Ns env.locals m) (hv : m "name" = some v) (tv : Told v) (hk : env.scope.kind = .function) (hl : env.kindOf "name" = some .local)
    (q : ∀ y t tk, Q (.str y t) { s with toks := tk }) : wpAny (model prog w) A (eval (tJ p) env) Q E s := by
  have ek : evalEach [Expr.Constant (.str "this is no net: ") 0 p.j1, .FormattedValue (.Name "name" p.j2) 114 none p.j3] env = [eval (.Constant (.str "this is no net: ") 0 p.j1) env, eval (.FormattedValue (.Name "name" p.j2) 114 none p.j3) env] := by
    simp [evalEach]
  have two : ∀ (y : Str) (s2 : Shared) (t : Tok), y.length ≤ 10000000 → s2.heap = s.heap ∧ s2.gens = s.gens ∧ s2.drawn = s.drawn ∧ s2.os = s.os →
      ∃ y' t', Value.str y t = .str y' t' ∧ (("" ++ ("this is no net: " : Str)) ++ y').length ≤ sizeLine ∧ Joins (model prog w) A E [] (("" ++ ("this is no net: " : Str)) ++ y') (fun out s1 => out.length ≤ sizeLine ∧ Q (.str out s1.toks) { s1 with toks := s1.toks + 1 }) s2 := fun y s2 t hy hs => by
    have hz : (("" ++ ("this is no net: " : Str)) ++ y).length ≤ sizeLine := by
      rw [strLen_append, sizeLine_eq]
      have : ("" ++ ("this is no net: " : Str)).length = 16 := by decide +kernel
      omega
    refine ⟨y, t, rfl, hz, hz, ?_⟩
    obtain ⟨h2, g2, d2, k2, o2⟩ := s2
    obtain ⟨rfl, rfl, rfl, rfl⟩ := hs
    exact q _ _ _
  refine wpAny_JoinedStr ?_
  rw [ek]
  refine wpAny_Constant_str ?_
  refine ⟨_, _, rfl, by decide +kernel, ?_⟩
  refine wpAny_FormattedValue_repr (wpAny_Name (wpAny_loadName_local hk hl hn hv ?_) (by decide))
  cases tv with
  | none =>
    refine pyReprObj_none (wpAny_formatField_str (two _ _ _ (by decide +kernel) ⟨rfl, rfl, rfl, rfl⟩) (two _ _ _ (by decide +kernel) ⟨rfl, rfl, rfl, rfl⟩) (by decide +kernel))
  | str x t hx =>
    have hx2 : (reprText x).length ≤ sizeLine := by rw [sizeLine_eq]; omega
    exact pyReprObj_str (wpAny_formatField_str (two _ _ _ hx ⟨rfl, rfl, rfl, rfl⟩) (two _ _ _ hx ⟨rfl, rfl, rfl, rfl⟩) hx2) hx2
/-- super().__init__ of ValueError on an exception without a dict -/
theorem call_super_init {nm q : Str} {N : Addr} {bs bm : List Value} {sn : List Str} {sub : List Value} {ab : Bool} {col : Option Bool} {dd : Option Addr} {k0 k1 k2 k3 k5 : Option Value} {u x t0 : Addr} {rest : List Value} {Q : Value → Shared → Prop}
    (hC : s.heap.get? C = some (excClassObj nm q C N bs bm true sn sub ab col dd k0 k1 k2 k3 k5 "ValueError.__new__")) (hx : s.heap.get? x = some (excO C t0)) (hu : s.heap.get? u = some (kxs_mw "ValueError.__init__" x)) (hz : rest.length ≤ sizeLine)
    (hq : ∀ h' t1, (∀ b o, b ≠ x → s.heap.get? b = some o → h'.get? b = some o) → h'.get? x = some (excO C t1) → Q .none { s with heap := h' }) :
    wpAny (model prog w) A (call (.ref u) rest) Q E s := by
  obtain ⟨hh, g, d, tk, os⟩ := s
  have k1 : (Value.type "method-wrapper" == Value.type "method" || Value.type "method-wrapper" == Value.type "builtin_function_or_method" || Value.type "method-wrapper" == Value.type "method-wrapper") = true := by decide
  refine wpAny_call (codeAny_of_tree (show wpAny _ A.in1 (callAny (.ref u) ⟨rest, []⟩) _ _ _ from ?_))
  simp only [callAny]
  refine wpAny_bind (wpAny_load hu ?_)
  simp only [kxs_mw, k1, if_true]
  refine KFB.if_so (by decide) (wpAny_bind (check_bound_init F.excBase_ValueError.toExcCallFacts hC hx rfl ?_))
  refine wpAny_bind (wpAny_pure (wpAny_pure ⟨plainId_quiet F.excBase_ValueError.init.plain _, codeAny_builtin F.excBase_ValueError.initEntry ?_⟩))
  exact exc_init_tree (cls := .ref C) (t0 := t0) (dv := none) (c2 := .none) (c3 := .none) (b4 := .bool false) hx hz fun h' a b _ => hq h' _ a b
end
end Bn
end PySem

namespace PySem
namespace Bn
open PySem.W PySem.Calls PyProof.Rows PySem.HandSPX
section
variable {prog : Program} {w : World} {A : Around} {E : Value → Shared → Prop} {R : Result → Shared → Prop} {s : Shared} {K : Frag} {mg mb : Str → Option Value} {C fI cc cda : Addr} {file : Str}
theorem bn_init (T : Txt K mg C fI cc cda file) {x t0 : Addr} {v : Value} (X : K.In s.heap) (hlim : s.heap.NoLimit) (hg : s.heap.Ns mainGlobals mg) (hb : s.heap.Ns builtinsNs mb) (hsu : mb "super" = some (.type "super"))
    (hfile : ((prog.main.file : Str) == file) = true) (htop : (prog.main.scope.names.lookup ("super" : Str)).isSome = false) (hx : s.heap.get? x = some (excO C t0)) (hnx : K.lookup x = none) (tv : Told v) (hroom : A.depth < recursionLimit)
    (hq : ∀ h' tk dx t1, Done s.heap h' x C dx t1 v → R (.ok (.ret .none)) { s with heap := h', toks := tk }) :
    codeAny (model prog w) A (.call (.ref fI) ⟨[.ref x, v], []⟩) R s := by
  obtain ⟨oc, od, doc, pm, an, ct, osl, p1, p2, ho, hcd⟩ := T.fn
  obtain ⟨nm, q, N, bs, bm, sn, sub, ab, col, dd, k0, k1, k2, k3, k5, hC, hbm, hal⟩ := T.cls
  obtain ⟨ccl, cdd, vs, ccs, tf, hcode, hvs⟩ := T.code
  obtain ⟨cl, cld, csl, hcell⟩ := T.cell
  have hcl : clsIn K C = some { name := nm, bases := bs, mro := .ref C :: bm, ns := N, qualname := q, hasDict := true, slotNames := sn, subclasses := sub, abstract := ab, collection := col, hasDel := false } := by unfold clsIn; rw [hC] <;> rfl
  have hxC : x ≠ C := fun z => by
    rw [z, hC] at hnx
    cases hnx
  refine ks_codeAny_call_defAt (fd := ksFn "__init__" "BadNet.__init__" (tA p1 p2) (tB P0) tS .none .none doc pm an (.ref cda) ct cc) (body := tB P0) (binds := [("self", .ref x), ("name", v)]) hroom (X _ _ ho) rfl hlim (codeRec_of X hcd) rfl (BindsTo.of_eq (by first | rfl | with_unfolding_all rfl))
    (show ∀ y ∈ tS.names, y.2 ≠ .cell by decide +kernel) (fun y hy => by
      rcases List.mem_cons.mp hy with e | e
      · rw [e]; rfl
      · rw [List.mem_singleton.mp e]; rfl) (fun h₁ hns hk₁ => ?_)
  have X₁ : K.In h₁ := X.keeps hk₁
  have g1 := hg.keeps hk₁
  have b1 := hb.keeps hk₁
  have hx₁ := hk₁ _ _ hx
  have mSelf : (fun y => List.lookup y ([("self", .ref x), ("name", v)] : List (Str × Value)).reverse) "self" = some (.ref x) := by
    show List.lookup ("self" : Str) [("name", v), ("self", .ref x)] = _
    rw [List.lookup_cons, show (("self" : Str) == "name") = false from by decide +kernel]
    rfl
  have mName : (fun y => List.lookup y ([("self", .ref x), ("name", v)] : List (Str × Value)).reverse) "name" = some v := rfl
  have kind : tS.kind = .function := rfl
  have lName : tS.names.lookup ("name" : Str) = some .local := by decide +kernel
  have lSelf : tS.names.lookup ("self" : Str) = some .local := by decide +kernel
  have lSup : tS.names.lookup ("super" : Str) = some .globalImplicit := by decide +kernel
  have lCls : tS.names.lookup ("__class__" : Str) = some .free := by decide +kernel
  show wpAt _ _ _ (execs (tB P0) (ksEnv "BadNet.__init__" tS s.heap.objs.size fI (.ref cda) cc)) _ _ _
  refine ks_wpAt_execs_cons (ks_wpAt_Expr_any (ks_wpAt_MethodCall ?_))
  refine ks_wpAt_super_base (env := ksEnv "BadNet.__init__" tS s.heap.objs.size fI (.ref cda) cc) lSup lCls (by decide +kernel) rfl (X₁ _ _ ho) rfl rfl rfl (X₁ _ _ hcode) rfl hvs hfile htop ?_
  refine ks_loadName_global kind lSup (loadGlobal_builtin (env := ksEnv "BadNet.__init__" tS s.heap.objs.size fI (.ref cda) cc) g1 T.noS b1 hsu ⟨rfl, ?_⟩)
  refine wpAny_loadName_free kind lCls rfl ⟨_, X₁ _ _ hcell, rfl⟩ ?_
  refine wpAny_loadName_local kind lSelf hns mSelf ?_
  refine ks_wpAny_isType_cls (X₁ _ _ hC) rfl ⟨rfl, ?_⟩
  refine ks_wpAny_call_super (X₁ _ _ hC) rfl hx₁ rfl (fun c e => nomatch e) (looks_mroIn X₁ T.selfS) fun h2 e2 kk2 => ?_
  have X₂ : K.In h2 := X₁.keeps kk2
  have hx₂ := kk2 _ _ hx₁
  have I₂ : InstAt h2 x (excO C t0) C none := ⟨hx₂, rfl, rfl, trivial⟩
  refine kxs_getMethod kxs_ValueError e2 (looks_opaque X₂ T.op) (l₀ := .ref C :: bm) (fun A Q E s k q => wpAny_bind ((looks_clsIn X₂ hcl) A _ E s k (wpAny_pure q))) rfl X₂ hal (I₂.type.andThen (looks_subIn X₂ T.inst)) hxC (by decide +kernel) ?_
  have X₃ : K.In (h2.push (kxs_mw "ValueError.__init__" x)) := X₂.keeps fun b o e => Heap.get?_push_of_some _ e
  have hx₃ : (h2.push (kxs_mw "ValueError.__init__" x)).get? x = some (excO C t0) := Heap.get?_push_of_some _ hx₂
  have hu : (h2.push (kxs_mw "ValueError.__init__" x)).get? h2.objs.size = some (kxs_mw "ValueError.__init__" x) := Heap.get?_push_size _ rfl
  have hns₃ : (h2.push (kxs_mw "ValueError.__init__" x)).Ns s.heap.objs.size (fun y => List.lookup y ([("self", .ref x), ("name", v)] : List (Str × Value)).reverse) := hns.keeps fun b o e => Heap.get?_push_of_some _ (kk2 b o e)
  generalize hh3 : h2.push (kxs_mw "ValueError.__init__" x) = h3 at X₃ hx₃ hu hns₃
  have k13 : ∀ b o, h₁.get? b = some o → h3.get? b = some o := fun b o e => by
    rw [← hh3]
    exact Heap.get?_push_of_some _ (kk2 b o e)
  generalize h2.objs.size = u at hu
  refine kxs_callWith (i := "ValueError.__init__") (x := x) rfl (evalArgs_plain (PyProof.Rows.args_cons (eval_text (env := ksEnv "BadNet.__init__" tS s.heap.objs.size fI (.ref cda) cc) hns₃ mName tv kind lName fun y t tk => PyProof.Rows.args_nil ?_) rfl))
  refine ⟨hu, call_super_init (X₃ _ _ hC) hx₃ hu (by show 1 ≤ sizeLine; decide) fun h4 t1 k34 hx₄ => ?_⟩
  have k14 : ∀ b o, b ≠ x → h₁.get? b = some o → h4.get? b = some o := fun b o n e => k34 b o n (k13 b o e)
  have X₄ : K.In h4 := fun a o e => k14 a o (fun z => by rw [z, hnx] at e; cases e) (X₁ a o e)
  have hLx : s.heap.objs.size ≠ x := Nat.ne_of_gt (Heap.lt_size hx)
  have hns₄ : h4.Ns s.heap.objs.size (fun y => List.lookup y ([("self", .ref x), ("name", v)] : List (Str × Value)).reverse) := hns.at fun o e => k14 _ o hLx e
  show wpAt _ _ _ (execs [_] _) _ _ _
  refine ks_wpAt_execs_cons (ks_wpAt_Assign_Attr (wpAt_of_wpAny (wpAny_Name (wpAny_loadName_local kind lName hns₄ mName ?_) (by decide +kernel))))
  refine wpAny_Name (wpAny_loadName_local kind lSelf hns₄ mSelf ?_) (by decide +kernel)
  refine set_plain X₄ (ox := excO C t1) (od := none) ⟨hx₄, rfl, rfl, trivial⟩ T.sa (exc_osa X₄ hx₄ hcl (show refsVE (.ref C :: bm) = true from hbm) rfl T.noN fun h5 tk dx k45 dbig dne hx₅ hn₅ => ?_)
  refine wpAt_of_wpAny (wpAny_execs_nil (hq h5 _ dx t1 ⟨fun b o n e => k45 b o n (k14 b o n (hk₁ b o e)), hx₅, Nat.le_trans (Nat.le_of_lt hns₄.lt) dbig, dne, hn₅⟩))
/-- a BadNet that was made -/
structure Made (h h' : Heap) (e C d : Addr) (v : Value) : Prop where
  keep : ∀ b o, h.get? b = some o → h'.get? b = some o
  new : h.objs.size ≤ e
  obj : ∃ oe vs, h'.get? e = some oe ∧ oe.cls = .ref C ∧ oe.dict = some d ∧ oe.data = .fields vs ∧ vs[1]? = some .none
  dbig : h.objs.size ≤ d
  dne : d ≠ e
  ns : h'.Ns1 d (fun y => if y = "name" then some v else none)
theorem bn_made (T : Txt K mg C fI cc cda file) {v : Value} (X : K.In s.heap) (hlim : s.heap.NoLimit) (hg : s.heap.Ns mainGlobals mg) (hb : s.heap.Ns builtinsNs mb) (hsu : mb "super" = some (.type "super"))
    (hfile : ((prog.main.file : Str) == file) = true) (htop : (prog.main.scope.names.lookup ("super" : Str)).isSome = false) (tv : Told v) (hroom : A.depth + 1 < recursionLimit)
    (hq : ∀ h' tk e d, Made s.heap h' e C d v → R (.ok (.ret (.ref e))) { s with heap := h', toks := tk }) : codeAny (model prog w) A (.call (.ref C) ⟨[v], []⟩) R s := by
  obtain ⟨nm, q, N, bs, bm, sn, sub, ab, col, dd, k0, k1, k2, k3, k5, hC, hbm, _⟩ := T.cls
  obtain ⟨hp, g, dr, tk, os⟩ := s
  have up : ∀ b o, hp.get? b = some o → ((hp.push (kdv_tup [v])).push (excO C hp.objs.size)).get? b = some o := fun b o e => Heap.get?_push_of_some _ (Heap.get?_push_of_some _ e)
  have at1 : ((hp.push (kdv_tup [v])).push (excO C hp.objs.size)).get? (hp.objs.size + 1) = some (excO C hp.objs.size) := by heap_get
  have notK : K.lookup (hp.objs.size + 1) = none := by
    cases z : K.lookup (hp.objs.size + 1) with
    | none => rfl
    | some o =>
      have z1 : hp.get? (hp.objs.size + 1) = some o := X _ _ z
      exact (Nat.lt_irrefl _ (Nat.lt_of_succ_lt (Heap.lt_size z1))).elim
  refine call_own F.excBase_ValueError (fun Y => refsVE_contains Y bm hbm) (X _ _ hC) (looks_findIn X T.iC) (fun self => bind_fn X self T.tC) (by rw [sizeLine_eq]; show 1 ≤ _; decide) ?_
  refine bn_init (s := ⟨(hp.push (kdv_tup [v])).push (excO C hp.objs.size), g, dr, tk, os⟩) T (X.keeps up) (hlim.keeps up) (hg.keeps up) (hb.keeps up) hsu hfile htop at1 notK tv (by show A.depth + 1 < recursionLimit; exact hroom) fun h' tk' dx t1 dn => ?_
  have sz : ((hp.push (kdv_tup [v])).push (excO C hp.objs.size)).objs.size = hp.objs.size + 2 := by rw [Heap.size_push, Heap.size_push]
  have dbig := dn.dbig
  have dbig' : hp.objs.size + 2 ≤ dx := by
    rw [← sz]
    exact dbig
  exact ⟨rfl, hq h' tk' (hp.objs.size + 1) dx ⟨fun b o e => dn.keep b o (Nat.ne_of_lt (Nat.lt_succ_of_lt (Heap.lt_size e))) (up b o e), Nat.le_succ _, ⟨_, _, dn.obj, rfl, rfl, rfl, rfl⟩, Nat.le_trans (Nat.le_add_right _ 2) dbig', dn.dne, dn.ns⟩⟩
end
end Bn
end PySem

/-! raise BadNet(x), error.name -/
namespace Bn
open PySem PySem.Spec PyProof.Rows L2
/-- values that may be told -/
def TellV : V → Prop
  | .non => True
  | .str x => (reprText x).length ≤ 10000000
  | _ => False
theorem told_of {v : V} {u : Value} (r : RelV v u) (h : TellV v) : PySem.Bn.Told u := by
  cases v with
  | non =>
    cases (show u = Value.none from r)
    exact .none
  | str x =>
    obtain ⟨t, rfl⟩ := r
    exact .str x t h
  | _ => exact False.elim h
theorem lookN {v : V} : List.lookup ("name" : Str) [(("name" : Str), v)] = some v := by simp [List.lookup]
theorem relN {v : V} {v' : Value} (r : RelV v v') (f : Str) : RelO (List.lookup f [(("name" : Str), v)]) (if f = "name" then some v' else none) := by
  by_cases e : f = "name"
  · rw [e, if_pos rfl, lookN]
    exact r
  · have e2 : (f == ("name" : Str)) = false := by simpa using e
    rw [if_neg e, show List.lookup f [(("name" : Str), v)] = none from by simp [List.lookup, e2]]
    trivial
/-- what the written part says, beside Bn.Txt -/
structure BadC (X : Cx) (C fI cc cda : Addr) (file : Str) : Prop where
  T : PySem.Bn.Txt X.K X.mg C fI cc cda file
  kC : PySem.W.keepIn X.K (.ref C) = true
  exC : PySem.W.subIn X.K (.ref C) (.type "BaseException") = some true
  tyC : PySem.W.typeIn X.K (.ref C) = some (.type "type")
  file_ : ((X.prog.main.file : Str) == file) = true
  top_ : (X.prog.main.scope.names.lookup ("super" : Str)).isSome = false
section
variable {X : Cx} {C fI cc cda : Addr} {file : Str}
/-- BadNet(e) -/
def tMkBad (C : Addr) (ta : TA) : L2.St → Hp → XK → Prop := fun σ H Q => ta σ H fun vs H1 => ∃ v, vs = [v] ∧ TellV v ∧ ∀ d, H1 d = none → Q (.ref C) (some d) (upd H1 d (.xd [(("name" : Str), v)]))
theorem pmk_bad {a : Expr} {ta : TA} {p pos : Pos} {k : Nat} (B : BadC X C fI cc cda file) (hr : Room k X.A) (ha : PA X [a] ta) (hg : Gl X "BadNet" := by rfl)
    (he : starEach (a :: []) X.env = (false, eval a X.env) :: starEach [] X.env := by rfl) (hpl : (backTo pos (starEach [] X.env)).any (·.1) = false := by rfl) :
    PMk X (.Call (.Name "BadNet" p) [a] [] pos) (tMkBad C ta) := by
  intro pz s σ H Q I h
  refine wpAny_Call_Name_kw (ld_glob I hg B.T.gC (PySem.W.callWith_K (h₀ := X.base) I.ok.mod.kin B.kC (thn (ha.run pos pz s σ H _ I h) fun us s1 hh => ?_) he hpl))
  obtain ⟨vs, H1, J1, r1, v, ev, tv, q1⟩ := hh
  subst ev
  obtain ⟨v', rfl, rv⟩ := vals1 r1
  refine ⟨J1.kIn, ?_⟩
  show wpAny _ _ (call (.ref C) [v']) _ _ _
  have hlim := J1.nolimit
  have hglob := J1.mod.glob.keeps J1.bk
  obtain ⟨mb, b1, b2⟩ := J1.mod.blt
  have hblt := b1.keeps J1.bk
  have hsu : mb "super" = some (.type "super") := (b2 "super" (by decide +kernel)).trans (by decide +kernel)
  obtain ⟨hp, g, dr, tk, os⟩ := s1
  refine wpAny_call (PySem.Bn.bn_made B.T J1.kIn hlim hglob hblt hsu B.file_ B.top_ (told_of rv tv) (by have := hr.dp; omega) fun h' tk' e d M => ?_)
  show MkP X pz σ Q (.ref e) ⟨h', g, dr, tk', os⟩
  obtain ⟨oe, fv, hoe, hc, hd, hdat, h1⟩ := M.obj
  obtain ⟨G', g1, g2⟩ := restrict h' fun b => decide (b ≠ e)
  have gk : ∀ b, b ≠ e → G'.get? b = h'.get? b := fun b hb => g1 b (decide_eq_true hb)
  have ge : G'.get? e = none := g2 e (by simp)
  have old : ∀ b o, hp.get? b = some o → G'.get? b = some o := fun b o q => (gk b (Nat.ne_of_lt (Nat.lt_of_lt_of_le (Heap.lt_size q) M.new))).trans (M.keep b o q)
  have ob : ObjOk X.prog X.w (upd H1 d (.xd [(("name" : Str), v)])) G' d (.xd [(("name" : Str), v)]) := ⟨_, M.ns.at (fun o q => (gk d M.dne).trans q), fun f => relN rv f⟩
  have J : Inv X pz σ (upd H1 d (.xd [(("name" : Str), v)])) ⟨G', g, dr, tk', os⟩ := J1.laid (t' := tk') old M.dbig ob
  refine ⟨e, oe, fv, ⟨G', g, dr, tk', os⟩, _, .ref C, some d, rfl, J, fun b o q => ?_, ge, hoe, ⟨hc, hd⟩, hdat, h1, ?_, rfl, J1.bare, raises_own B.exC B.tyC, q1 d (J1.hok.fresh M.dbig)⟩
  · by_cases hb : b = e
    · have q' : G'.get? b = some o := q
      rw [hb, ge] at q'
      cases q'
    · exact (gk b hb).symm.trans q
  · rw [upd_ne (Ne.symm M.dne)]
    exact J1.hok.fresh M.new
def tRaiseBad (C : Addr) (W : WX) (ta : TA) : TS := fun _ σ H => tMkBad C ta σ H fun cls d H' => W cls d σ H'
theorem ps_raiseBad {a : Expr} {ta : TA} {W : WX} {p pos pos2 : Pos} {k : Nat} (hc : X.calm = true) (B : BadC X C fI cc cda file) (hr : Room k X.A) (tk : Takes X W) (ha : PA X [a] ta) (hg : Gl X "BadNet" := by rfl)
    (he : starEach (a :: []) X.env = (false, eval a X.env) :: starEach [] X.env := by rfl) (hpl : (backTo pos (starEach [] X.env)).any (·.1) = false := by rfl) :
    PS X (.Raise (some (.Call (.Name "BadNet" p) [a] [] pos)) none pos2) (tRaiseBad C W ta) := ps_raise hc tk (pmk_bad B hr ha hg he hpl)
end
end Bn

/-! The text by places, and what is used everywhere. -/
namespace Bc
open PySem L2
def top (i : Nat) : Stmt := PySem.Challenge.pw_ballchutes_k07_refused_nets.main.body.getD i (.Pass ⟨0, 0, 0, 0⟩)
abbrev sNet : Stmt := top 11
abbrev sInit : Stmt := inClass sNet 0
abbrev sStart : Stmt := inClass sNet 1
abbrev sLen : Stmt := inClass sNet 4
abbrev sHas : Stmt := inClass sNet 5
abbrev sEq : Stmt := inClass sNet 6
abbrev sLeaders : Stmt := top 12
abbrev sMet : Stmt := top 13
abbrev sKinds : Stmt := top 14
abbrev sNames : Stmt := top 15
abbrev sIsName : Stmt := top 16
abbrev sRows : Stmt := top 17
abbrev sAreRows : Stmt := top 18
abbrev sIsRow : Stmt := top 19
abbrev sIsDrop : Stmt := top 20
abbrev sInlets : Stmt := top 21
abbrev sChMet : Stmt := top 22
abbrev sDraw : Stmt := top 24
abbrev sLKnots : Stmt := top 25
abbrev sLInlets : Stmt := top 26
abbrev sTurned : Stmt := top 27
abbrev sLaw : Stmt := top 28
/-! ### heaps -/
theorem same_upd {H : Hp} {p : Addr} {o : HO} (h : H p = none) : Same H (upd H p o) := fun b u e => by
  rw [upd_ne (ne_of_none e h)]
  exact e
theorem Same.updn {H H1 : Hp} {p : Addr} {o : HO} (e : Same H H1) (h : H1 p = none) : Same H (upd H1 p o) := e.trans (same_upd h)
/-- what H has not yet may be changed -/
theorem Same.mut {H H1 : Hp} {p : Addr} {o : HO} (e : Same H H1) (h : H p = none) : Same H (upd H1 p o) := fun a u ha => by
  rw [upd_ne (ne_of_none ha h)]
  exact e a u ha
theorem sz {n : Nat} (h : n ≤ 100000) : n ≤ sizeLine := Nat.le_trans h (by decide)
theorem szl {n : Nat} (h : n < 100000) : n < sizeLine := Nat.lt_of_lt_of_le h (by decide)
/-! ### data: values that stand in the heap as they were made -/
mutual
inductive Dt (H : Hp) : V → PyData → Prop
  | non : Dt H .non .none
  | bl (b : Bool) : Dt H (.bl b) (.bool b)
  | int (i : Int) : Dt H (.int i) (.int i)
  | str (x : Str) : Dt H (.str x) (.str x)
  | lst {a : Addr} {xs : List V} {ds : List PyData} : H a = some (.lst xs) → Dts H xs ds → Dt H (.ref a) (.list ds)
  | tup {a : Addr} {xs : List V} {ds : List PyData} : H a = some (.tup xs) → Dts H xs ds → Dt H (.ref a) (.tuple ds)
inductive Dts (H : Hp) : List V → List PyData → Prop
  | nil : Dts H [] []
  | cons {v : V} {vs : List V} {d : PyData} {ds : List PyData} : Dt H v d → Dts H vs ds → Dts H (v :: vs) (d :: ds)
end
mutual
theorem Dt.mono {H H' : Hp} (e : Same H H') : ∀ (d : PyData) (v : V), Dt H v d → Dt H' v d
  | .none, _, .non => .non
  | .bool _, _, .bl b => .bl b
  | .int _, _, .int i => .int i
  | .str _, _, .str x => .str x
  | .list ds, _, .lst h k => .lst (e _ _ h) (Dts.mono e ds _ k)
  | .tuple ds, _, .tup h k => .tup (e _ _ h) (Dts.mono e ds _ k)
theorem Dts.mono {H H' : Hp} (e : Same H H') : ∀ (ds : List PyData) (vs : List V), Dts H vs ds → Dts H' vs ds
  | [], _, .nil => .nil
  | d :: ds, _, .cons h k => .cons (Dt.mono e d _ h) (Dts.mono e ds _ k)
end
theorem Dt.go {H H' : Hp} {v : V} {d : PyData} (h : Dt H v d) (e : Same H H') : Dt H' v d := Dt.mono e d v h
theorem Dts.go {H H' : Hp} {v : List V} {d : List PyData} (h : Dts H v d) (e : Same H H') : Dts H' v d := Dts.mono e d v h
mutual
theorem Dt.dp {K : PySem.W.Frag} {H : Hp} : ∀ (d : PyData) (v : V), Dt H v d → Dp K H v d
  | .none, _, .non => .non
  | .bool _, _, .bl b => .bl b
  | .int _, _, .int i => .int i
  | .str _, _, .str x => .str x
  | .list ds, _, .lst h k => .lst (SqL.of h) (Dts.dp ds _ k)
  | .tuple ds, _, .tup h k => .tup (SqT.of h) (Dts.dp ds _ k)
theorem Dts.dp {K : PySem.W.Frag} {H : Hp} : ∀ (ds : List PyData) (vs : List V), Dts H vs ds → DpAll K H vs ds
  | [], _, .nil => .nil
  | d :: ds, _, .cons h k => .cons (Dt.dp d _ h) (Dts.dp ds _ k)
end
theorem Dts.length {H : Hp} : ∀ {vs : List V} {ds : List PyData}, Dts H vs ds → vs.length = ds.length
  | _, _, .nil => rfl
  | _, _, .cons _ k => by rw [List.length_cons, List.length_cons, Dts.length k]
theorem Dts.append {H : Hp} : ∀ {vs ws : List V} {ds es : List PyData}, Dts H vs ds → Dts H ws es → Dts H (vs ++ ws) (ds ++ es)
  | _, _, _, _, .nil, k => k
  | _, _, _, _, .cons h k, l => .cons h (Dts.append k l)
theorem Dts.take {H : Hp} : ∀ {vs : List V} {ds : List PyData} (n : Nat), Dts H vs ds → Dts H (vs.take n) (ds.take n)
  | _, _, 0, _ => .nil
  | _, _, _ + 1, .nil => .nil
  | _, _, n + 1, .cons h k => .cons h (Dts.take n k)
theorem Dts.drop {H : Hp} : ∀ {vs : List V} {ds : List PyData} (n : Nat), Dts H vs ds → Dts H (vs.drop n) (ds.drop n)
  | _, _, 0, k => k
  | _, _, _ + 1, .nil => .nil
  | _, _, n + 1, .cons h k => Dts.drop n k
theorem Dts.get {H : Hp} : ∀ {vs : List V} {ds : List PyData} {i : Nat} {d : PyData}, Dts H vs ds → ds[i]? = some d → ∃ v, vs[i]? = some v ∧ Dt H v d
  | _, _, _, _, .nil, e => absurd e (by simp)
  | _, _, 0, _, .cons h _, e => by simp at e; subst e; exact ⟨_, rfl, h⟩
  | _, _, i + 1, d, .cons _ k, e => by
    obtain ⟨v, h1, h2⟩ := Dts.get (i := i) (d := d) k (by simpa using e)
    exact ⟨v, by simpa using h1, h2⟩
theorem Dts.getV {H : Hp} : ∀ {vs : List V} {ds : List PyData} {i : Nat} {v : V}, Dts H vs ds → vs[i]? = some v → ∃ d, ds[i]? = some d ∧ Dt H v d
  | _, _, _, _, .nil, e => absurd e (by simp)
  | _, _, 0, _, .cons h _, e => by simp at e; subst e; exact ⟨_, rfl, h⟩
  | _, _, i + 1, d, .cons _ k, e => by
    obtain ⟨v, h1, h2⟩ := Dts.getV (i := i) (v := d) k (by simpa using e)
    exact ⟨v, by simpa using h1, h2⟩
theorem Dts.strs {H : Hp} : ∀ (zs : List Str), Dts H (zs.map V.str) (zs.map PyData.str)
  | [] => .nil
  | z :: zs => .cons (.str z) (Dts.strs zs)
theorem Dts.of_strs {H : Hp} : ∀ {vs : List V} {zs : List Str}, Dts H vs (zs.map PyData.str) → vs = zs.map V.str
  | [], [], _ => rfl
  | _ :: _, [], h => nomatch h
  | [], z :: zs, h => nomatch h
  | v :: vs, z :: zs, .cons h k => by
    cases h
    rw [Dts.of_strs k] <;> rfl
/-! ### nets as data -/
abbrev Drop := List Str
abbrev Row := List Drop
abbrev Rows := Row × Row
def dDrop (d : Drop) : PyData := .tuple (d.map PyData.str)
def dRow (r : Row) : PyData := .tuple (r.map dDrop)
def dRows (r : Rows) : PyData := .tuple [dRow r.1, dRow r.2]
/-- a dict's pairs, its keys texts -/
inductive Dk (H : Hp) : List (Key × V) → List (Str × PyData) → Prop
  | nil : Dk H [] []
  | cons {v : V} {kvs : List (Key × V)} {k : Str} {d : PyData} {ds : List (Str × PyData)} : Dt H v d → Dk H kvs ds → Dk H ((.inr k, v) :: kvs) ((k, d) :: ds)
theorem Dk.go {H H' : Hp} (e : Same H H') : ∀ {kvs : List (Key × V)} {ds : List (Str × PyData)}, Dk H kvs ds → Dk H' kvs ds
  | _, _, .nil => .nil
  | _, _, .cons h k => .cons (h.go e) (Dk.go e k)
theorem Dk.length {H : Hp} : ∀ {kvs : List (Key × V)} {ds : List (Str × PyData)}, Dk H kvs ds → kvs.length = ds.length
  | _, _, .nil => rfl
  | _, _, .cons _ k => by rw [List.length_cons, List.length_cons, Dk.length k]
theorem Dk.keys {H : Hp} : ∀ {kvs : List (Key × V)} {ds : List (Str × PyData)}, Dk H kvs ds → kvs.map (·.1) = (ds.map (·.1)).map Sum.inr
  | _, _, .nil => rfl
  | _, _, .cons _ k => by
    simp only [List.map_cons]
    rw [Dk.keys k]
theorem valV_nil {k : Key} : valV ([] : List (Key × V)) k = none := rfl
theorem valV_cons {k j : Key} {v : V} {r : List (Key × V)} : valV ((j, v) :: r) k = if j = k then some v else valV r k := by
  unfold valV
  rw [List.find?_cons]
  by_cases h : j = k
  · simp [h]
  · simp [h]
/-- what a dict of data has at a key -/
theorem Dk.get {H : Hp} : ∀ {kvs : List (Key × V)} {ds : List (Str × PyData)} {x : Str} {d : PyData}, Dk H kvs ds → ds.lookup x = some d → ∃ v, valV kvs (.inr x) = some v ∧ Dt H v d
  | _, _, _, _, .nil, e => absurd e (by simp)
  | _, _, x, d, .cons (k := j) h k, e => by
    rw [List.lookup_cons] at e
    rw [valV_cons]
    by_cases q : j = x
    · subst q
      simp at e
      subst e
      exact ⟨_, if_pos rfl, h⟩
    · have q2 : (x == j) = false := by simpa using fun z => q z.symm
      rw [q2] at e
      rw [if_neg (by simpa using q)]
      exact Dk.get k e
theorem Dk.none {H : Hp} : ∀ {kvs : List (Key × V)} {ds : List (Str × PyData)} {x : Str}, Dk H kvs ds → ds.lookup x = none → valV kvs (.inr x) = none
  | _, _, _, .nil, e => rfl
  | _, _, x, .cons (k := j) h k, e => by
    rw [List.lookup_cons] at e
    rw [valV_cons]
    by_cases q : j = x
    · subst q
      simp at e
    · have q2 : (x == j) = false := by simpa using fun z => q z.symm
      rw [q2] at e
      rw [if_neg (by simpa using q)]
      exact Dk.none k e
end Bc

namespace Bc
open PySem L2
/-- te gives v, making objects alone -/
def Ev (te : TE) (σ : L2.St) (H : Hp) (v : V) : Prop := ∀ Q : VK, (∀ H', Same H H' → Q v H') → te σ H Q
def EvB (tt : TT) (σ : L2.St) (H : Hp) (b : Bool) : Prop := ∀ Q : Bool → Hp → Prop, (∀ H', Same H H' → Q b H') → tt σ H Q
/-- te gives data -/
def EvD (te : TE) (σ : L2.St) (H : Hp) (d : PyData) : Prop := ∀ Q : VK, (∀ v H', Same H H' → Dt H' v d → Q v H') → te σ H Q
theorem ev_tv {σ : L2.St} {H : Hp} {i : Nat} {v : V} (h : σ[i]? = some (some v)) : Ev (tVar i) σ H v := fun Q q => ⟨v, h, q H (Same.refl H)⟩
theorem ev_tc {σ : L2.St} {H : Hp} {v : V} : Ev (tC v) σ H v := fun Q q => q H (Same.refl H)
theorem EvB.of {te : TE} {σ : L2.St} {H : Hp} {b : Bool} (h : Ev te σ H (.bl b)) : EvB (tB te) σ H b := fun Q q => h _ fun H' e => ⟨b, rfl, q H' e⟩
theorem EvB.of' {te : TE} {σ : L2.St} {H : Hp} {b : Bool} (h : Ev te σ H (.bl b)) : EvB (tTest te) σ H b := fun Q q => h _ fun H' e => ⟨b, rfl, q H' e⟩
theorem EvB.not {tt : TT} {σ : L2.St} {H : Hp} {b : Bool} (h : EvB tt σ H b) : EvB (tNot tt) σ H (!b) := fun Q q => h _ fun H' e => q H' e
theorem EvB.or {t u : TT} {σ : L2.St} {H : Hp} {a b : Bool} (h : EvB t σ H a) (k : a = false → ∀ H', Same H H' → EvB u σ H' b) : EvB (tOr t u) σ H (a || b) := fun Q q => h _ fun H' e => by
  cases a with
  | true => exact iteT (q H' e)
  | false => exact iteF (k rfl H' e _ fun H2 e2 => q H2 (e.trans e2))
theorem EvB.and {t u : TT} {σ : L2.St} {H : Hp} {a b : Bool} (h : EvB t σ H a) (k : a = true → ∀ H', Same H H' → EvB u σ H' b) : EvB (tAnd t u) σ H (a && b) := fun Q q => h _ fun H' e => by
  cases a with
  | true => exact iteT (k rfl H' e _ fun H2 e2 => q H2 (e.trans e2))
  | false => exact iteF (q H' e)
theorem Ev.andV {t u : TE} {σ : L2.St} {H : Hp} {a b : Bool} (h : Ev t σ H (.bl a)) (k : a = true → ∀ H', Same H H' → Ev u σ H' (.bl b)) : Ev (tAndV t u) σ H (.bl (a && b)) := fun Q q => h _ fun H' e => ⟨a, rfl, by
  cases a with
  | true => exact iteT (k rfl H' e _ fun H2 e2 => q H2 (e.trans e2))
  | false => exact iteF (q H' e)⟩
theorem Ev.orV {t u : TE} {σ : L2.St} {H : Hp} {a b : Bool} (h : Ev t σ H (.bl a)) (k : a = false → ∀ H', Same H H' → Ev u σ H' (.bl b)) : Ev (tOrV t u) σ H (.bl (a || b)) := fun Q q => h _ fun H' e => ⟨a, rfl, by
  cases a with
  | true => exact iteT (q H' e)
  | false => exact iteF (k rfl H' e _ fun H2 e2 => q H2 (e.trans e2))⟩
/-- a heap without one object -/
def hide (H : Hp) (D : Addr) : Hp := fun b => if b = D then none else H b
theorem hide_ne {H : Hp} {D b : Addr} (h : b ≠ D) : hide H D b = H b := if_neg h
theorem hide_at {H : Hp} {D : Addr} : hide H D D = none := if_pos rfl
theorem same_hide {H H' : Hp} {D : Addr} (e : Same H H') (h : H D = none) : Same H (hide H' D) := fun b o q => by
  rw [hide_ne (ne_of_none q h)]
  exact e b o q
theorem hide_same {H : Hp} {D : Addr} : Same (hide H D) H := fun b o q => by
  by_cases h : b = D
  · subst h
    rw [hide_at] at q
    cases q
  · rw [hide_ne h] at q
    exact q
theorem hide_upd {H : Hp} {D : Addr} {o : HO} : Same (hide H D) (upd H D o) := fun b u q => by
  by_cases h : b = D
  · subst h
    rw [hide_at] at q
    cases q
  · rw [hide_ne h] at q
    rw [upd_ne h]
    exact q
theorem hide_mono {H H' : Hp} {D : Addr} (e : Same H H') : Same (hide H D) (hide H' D) := fun b u q => by
  by_cases h : b = D
  · subst h
    rw [hide_at] at q
    cases q
  · rw [hide_ne h] at q ⊢
    exact e b u q
/-- a comprehension without tests over a walk: what R says of each item made -/
theorem lc_name {J : It} {n : Nat} {G : Hp → Prop} {Y : Nat → Hp → V → Hp → Prop} (w : Walk J n G Y) {te : TE} {j : Nat} {vs : List Nat} {σ : L2.St} {H1 : Hp} {D : Addr} {Qd : Hp → Prop} (R : Nat → V → Hp → Prop)
    (hm : ∀ i y H H', Same H H' → R i y H → R i y H') (hD : H1 D = none) (hn : n < 100000) (hG : ∀ H, Same H1 H → G H) (hw : ∀ x, wipe ((wipe σ vs).set j (some x)) vs = wipe σ vs)
    (hs : ∀ i x H H', i < n → Same H1 H → Y i H x H' → Same H H' ∧ ∀ Q : VK, (∀ y H4, Same H' H4 → R i y (hide H4 D) → Q y H4) → te ((wipe σ vs).set j (some x)) H' Q)
    (hd : ∀ ys H, ys.length = n → (∀ i y, ys[i]? = some y → R i y (hide H D)) → Same H1 H → H D = some (.lst ys) → Qd H) : ∃ W : Nat → Nat → Hp → Prop, (∃ m, W 0 m (upd H1 D (.lst []))) ∧ ∀ i m H, W i m H →
      (J.stop i H ∧ Qd H) ∨ (J.go i H ∧ ∃ Nx : Hp → Prop, (∀ H', Nx H' → ∃ m', m' < m ∧ W (i + 1) m' H') ∧ ∀ x H', J.yld i H x H' → gName j x (wipe σ vs) H' fun σ2 H2 => wipe σ2 vs = wipe σ vs ∧ tYes σ2 H2 fun b H3 => if b = true then te σ2 H3 fun y H4 => ∃ acc, H4 D = some (.lst acc) ∧ acc.length < sizeLine ∧ Nx (upd H4 D (.lst (acc ++ [y]))) else Nx H3) := by
  refine lc_it w (fun i H => Same H1 H ∧ ∃ acc, H D = some (.lst acc) ∧ acc.length = i ∧ ∀ k y, acc[k]? = some y → R k y (hide H D)) ⟨same_upd hD, [], upd_same, rfl, fun k y e => by simp at e⟩ (fun i H _ p => hG H p.1) (fun i x H H' hi p y => ?_) (fun H p => ?_)
  · obtain ⟨s1, acc, ha, hl, hr⟩ := p
    obtain ⟨s2, k⟩ := hs i x H H' hi s1 y
    refine ⟨hw x, ?_⟩
    show te ((wipe σ vs).set j (some x)) H' _
    refine (k _ fun y H4 s3 r => ⟨acc, s3 _ _ (s2 _ _ ha), szl (by omega), Same.mut ((s1.trans s2).trans s3) hD, acc ++ [y], upd_same, by rw [List.length_append, List.length_singleton, hl], fun k z e => ?_⟩)
    have key : hide (upd H4 D (.lst (acc ++ [y]))) D = hide H4 D := by
      funext b
      unfold hide
      by_cases h : b = D
      · rw [if_pos h, if_pos h]
      · rw [if_neg h, if_neg h, upd_ne h]
    rw [key]
    by_cases h : k < acc.length
    · rw [List.getElem?_append_left h] at e
      exact hm k z _ _ (hide_mono (s2.trans s3)) (hr k z e)
    · rw [List.getElem?_append_right (by omega)] at e
      have h0 : k - acc.length = 0 := by
        rcases Nat.eq_zero_or_pos (k - acc.length) with q | q
        · exact q
        · have q2 : ([y] : List V).length ≤ k - acc.length := by
            show 1 ≤ _
            omega
          rw [List.getElem?_eq_none_iff.mpr q2] at e
          cases e
      rw [h0] at e
      have hk : k = i := by omega
      subst hk
      cases e
      exact r
  · obtain ⟨s1, acc, ha, hl, hr⟩ := p
    exact hd acc H hl hr s1 ha
/-- the same, the items told -/
theorem lc_vals {J : It} {n : Nat} {G : Hp → Prop} {Y : Nat → Hp → V → Hp → Prop} (w : Walk J n G Y) {te : TE} {j : Nat} {vs : List Nat} {σ : L2.St} {H1 : Hp} {D : Addr} {Qd : Hp → Prop} (f : Nat → V)
    (hD : H1 D = none) (hn : n < 100000) (hG : ∀ H, Same H1 H → G H) (hw : ∀ x, wipe ((wipe σ vs).set j (some x)) vs = wipe σ vs)
    (hs : ∀ i x H H', i < n → Same H1 H → Y i H x H' → Same H H' ∧ Ev te ((wipe σ vs).set j (some x)) H' (f i))
    (hd : ∀ H, Same H1 H → H D = some (.lst ((List.range n).map f)) → Qd H) : ∃ W : Nat → Nat → Hp → Prop, (∃ m, W 0 m (upd H1 D (.lst []))) ∧ ∀ i m H, W i m H →
      (J.stop i H ∧ Qd H) ∨ (J.go i H ∧ ∃ Nx : Hp → Prop, (∀ H', Nx H' → ∃ m', m' < m ∧ W (i + 1) m' H') ∧ ∀ x H', J.yld i H x H' → gName j x (wipe σ vs) H' fun σ2 H2 => wipe σ2 vs = wipe σ vs ∧ tYes σ2 H2 fun b H3 => if b = true then te σ2 H3 fun y H4 => ∃ acc, H4 D = some (.lst acc) ∧ acc.length < sizeLine ∧ Nx (upd H4 D (.lst (acc ++ [y]))) else Nx H3) := by
  refine lc_name w (fun i y _ => y = f i) (fun _ _ _ _ _ h => h) hD hn hG hw (fun i x H H' hi s y => ?_) (fun ys H hl hr s h => hd H s ?_)
  · obtain ⟨a, b⟩ := hs i x H H' hi s y
    exact ⟨a, fun Q q => b Q fun H4 s4 => q _ _ s4 rfl⟩
  · rw [h]
    congr 2
    refine List.ext_getElem? fun i => ?_
    rw [List.getElem?_map]
    by_cases hi : i < n
    · have h1 : i < ys.length := by omega
      rw [List.getElem?_eq_getElem h1, List.getElem?_range hi]
      show some _ = some (f i)
      rw [hr i ys[i] (List.getElem?_eq_getElem h1)]
    · rw [List.getElem?_eq_none_iff.mpr (by omega), List.getElem?_eq_none_iff.mpr (by rw [List.length_range]; omega)]
      rfl
theorem map_bls (n : Nat) (f : Nat → Bool) : (List.range n).map (fun i => V.bl (f i)) = ((List.range n).map f).map V.bl := by
  rw [List.map_map]
  rfl
theorem all_true (n : Nat) : ((List.range n).map fun _ => true).all id = true := by
  rw [List.all_eq_true]
  intro x h
  obtain ⟨_, _, e⟩ := List.mem_map.mp h
  exact e.symm
section
variable {K : PySem.W.Frag} {σ : L2.St} {H : Hp} {ta tb : TE}
theorem ev_isi {T : String} {x : V} {t : Value} {b : Bool} (ha : Ev ta σ H x) (hty : ∀ H', Same H H' → TyX K H' x t) (hk : PySem.W.kitOne K t (.type T) = some b) : Ev (tCB (rIsi K) (tCons ta (tCons (tC (.ty T)) tNil))) σ H (.bl b) :=
  fun Q q => ha _ fun H' e => ⟨x, .ty T, t, .type T, b, rfl, .ty T, hty H' e, hk, q H' e⟩
theorem ev_isTup {a : Addr} {xs : List V} (ha : Ev ta σ H (.ref a)) (h : H a = some (.tup xs)) : Ev (tCB (rIsi K) (tCons ta (tCons (tC (.ty "tuple")) tNil))) σ H (.bl true) :=
  ev_isi ha (fun H' e => .base (.tup (e _ _ h))) (kit_ty (by decide +kernel))
theorem ev_isDict {a : Addr} {xs : List (Key × V)} (ha : Ev ta σ H (.ref a)) (h : H a = some (.dK xs)) : Ev (tCB (rIsi K) (tCons ta (tCons (tC (.ty "dict")) tNil))) σ H (.bl true) :=
  ev_isi ha (fun H' e => .base (.dK (e _ _ h))) (kit_ty (by decide +kernel))
theorem ev_isStr {z : Str} (ha : Ev ta σ H (.str z)) : Ev (tCB (rIsi K) (tCons ta (tCons (tC (.ty "str")) tNil))) σ H (.bl true) :=
  ev_isi ha (fun H' e => .base (.str z)) (kit_ty (by decide +kernel))
/-- len of a tuple, of a list -/
def rLen (K : PySem.W.Frag) : List V → Hp → VK → Prop := fun xs H Q => ∃ p ys, xs = [V.ref p] ∧ (SqL K H p ys ∨ SqT K H p ys) ∧ Q (.int ys.length) H
theorem ev_lenT {a : Addr} {xs : List V} (ha : Ev ta σ H (.ref a)) (h : H a = some (.tup xs)) : Ev (tCB (rLen K) (tCons ta tNil)) σ H (.int (xs.length : Int)) :=
  fun Q q => ha _ fun H' e => ⟨a, xs, rfl, .inr (SqT.of (e _ _ h)), q H' e⟩
theorem ev_lenL {a : Addr} {xs : List V} (ha : Ev ta σ H (.ref a)) (h : H a = some (.lst xs)) : Ev (tCB (rLen K) (tCons ta tNil)) σ H (.int (xs.length : Int)) :=
  fun Q q => ha _ fun H' e => ⟨a, xs, rfl, .inl (SqL.of (e _ _ h)), q H' e⟩
def rLenD : List V → Hp → VK → Prop := fun xs H Q => ∃ a kvs, xs = [V.ref a] ∧ H a = some (.dK kvs) ∧ Q (.int (kvs.length : Nat)) H
theorem ev_lenD {a : Addr} {xs : List (Key × V)} (ha : Ev ta σ H (.ref a)) (h : H a = some (.dK xs)) : Ev (tCB rLenD (tCons ta tNil)) σ H (.int (xs.length : Nat)) :=
  fun Q q => ha _ fun H' e => ⟨a, xs, rfl, e _ _ h, q H' e⟩
theorem ev_eq {x y : V} (ha : Ev ta σ H x) (hb : ∀ H', Same H H' → Ev tb σ H' y) (hs : scal x y = true) : Ev (tOp rEq ta tb) σ H (.bl (decide (x = y))) :=
  fun Q q => ha _ fun H' e => hb H' e _ fun H2 e2 => ⟨hs, q H2 (e.trans e2)⟩
theorem ev_ne {x y : V} (ha : Ev ta σ H x) (hb : ∀ H', Same H H' → Ev tb σ H' y) (hs : scal x y = true) : Ev (tOp rNe ta tb) σ H (.bl (!decide (x = y))) :=
  fun Q q => ha _ fun H' e => hb H' e _ fun H2 e2 => ⟨hs, q H2 (e.trans e2)⟩
theorem ev_I0 {g : Int → Int → V} {i j : Int} (ha : Ev ta σ H (.int i)) (hb : ∀ H', Same H H' → Ev tb σ H' (.int j)) : Ev (tOp (rI0 g) ta tb) σ H (g i j) :=
  fun Q q => ha _ fun H' e => hb H' e _ fun H2 e2 => ⟨i, j, rfl, rfl, q H2 (e.trans e2)⟩
theorem ev_I {C : Int → Int → Prop} {g : Int → Int → V} {i j : Int} (ha : Ev ta σ H (.int i)) (hb : ∀ H', Same H H' → Ev tb σ H' (.int j)) (hc : C i j) : Ev (tOp (rI C g) ta tb) σ H (g i j) :=
  fun Q q => ha _ fun H' e => hb H' e _ fun H2 e2 => ⟨i, j, rfl, rfl, hc, q H2 (e.trans e2)⟩
/-- k in d -/
theorem ev_inD {a : Addr} {kvs : List (Key × V)} {k : Key} (ha : Ev ta σ H (kV k)) (hb : ∀ H', Same H H' → Ev tb σ H' (.ref a)) (h : H a = some (.dK kvs)) : Ev (tDIn ta tb) σ H (.bl (valV kvs k).isSome) :=
  fun Q q => ha _ fun H' e => hb H' e _ fun H2 e2 => ⟨a, valV kvs k, rfl, DGet.k (k := k) ((e.trans e2) _ _ h), q H2 (e.trans e2)⟩
theorem ev_notInD {a : Addr} {kvs : List (Key × V)} {k : Key} (ha : Ev ta σ H (kV k)) (hb : ∀ H', Same H H' → Ev tb σ H' (.ref a)) (h : H a = some (.dK kvs)) : Ev (tDNotIn ta tb) σ H (.bl (!(valV kvs k).isSome)) :=
  fun Q q => ha _ fun H' e => hb H' e _ fun H2 e2 => ⟨a, valV kvs k, rfl, DGet.k (k := k) ((e.trans e2) _ _ h), q H2 (e.trans e2)⟩
theorem ev_dget {a : Addr} {kvs : List (Key × V)} {k : Key} {v : V} (ha : Ev ta σ H (.ref a)) (hb : ∀ H', Same H H' → Ev tb σ H' (kV k)) (h : H a = some (.dK kvs)) (hv : valV kvs k = some v) : Ev (tDGet ta tb) σ H v :=
  fun Q q => ha _ fun H' e => hb H' e _ fun H2 e2 => ⟨a, v, rfl, by have z := DGet.k (k := k) ((e.trans e2) _ _ h); rw [hv] at z; exact z, q H2 (e.trans e2)⟩
/-- all([..]) -/
theorem ev_all {bs : List Bool} {tl : TE} (h : ∀ Q : VK, (∀ p H', Same H H' → H' p = some (.lst (bs.map V.bl)) → Q (.ref p) H') → tl σ H Q) : Ev (tCB (rAll K) (tCons tl tNil)) σ H (.bl (bs.all id)) :=
  fun Q q => h _ fun p H' e hp => ⟨p, bs, rfl, SqL.of hp, q H' e⟩
end
/-- an if that is not taken -/
theorem if_no {tt : TT} {t u : TS} {D : Ends} {σ : L2.St} {H : Hp} (h : EvB tt σ H false) (k : ∀ H', Same H H' → u D σ H') : tIfS tt t u D σ H := h _ fun H' e => iteF (k H' e)
theorem if_yes {tt : TT} {t u : TS} {D : Ends} {σ : L2.St} {H : Hp} (h : EvB tt σ H true) (k : ∀ H', Same H H' → t D σ H') : tIfS tt t u D σ H := h _ fun H' e => iteT (k H' e)
/-- if t: .. (not taken); the rest -/
theorem q_no {tt : TT} {t u : TS} {D : Ends} {σ : L2.St} {H : Hp} (h : EvB tt σ H false) (k : ∀ H', Same H H' → u D σ H') : tSeq (tIfS tt t tNext) u D σ H := h _ fun H' e => iteF (k H' e)
theorem q_asg {te : TE} {u : TS} {D : Ends} {σ : L2.St} {H : Hp} {i : Nat} {v : V} (h : Ev te σ H v) (k : ∀ H', Same H H' → u D (σ.set i (some v)) H') : tSeq (tAsg te (gName i)) u D σ H := h _ fun H' e => k H' e
theorem q_drop {te : TE} {u : TS} {D : Ends} {σ : L2.St} {H : Hp} {v : V} (h : Ev te σ H v) (k : ∀ H', Same H H' → u D σ H') : tSeq (tDrop te) u D σ H := h _ fun H' e => k H' e
theorem q_unpack2 {K : PySem.W.Frag} {ta : TE} {n i j : Nat} {u : TS} {D : Ends} {σ : L2.St} {H : Hp} {a : Addr} {v1 v2 : V} (h : Ev ta σ H (.ref a)) (ha : H a = some (.tup [v1, v2])) (k : ∀ H', Same H H' → u D ((σ.set i (some v1)).set j (some v2)) H') (hn : n = 2 := by rfl) :
    tSeq (tAsg ta (gTup K n (gCons (gName i) (gCons (gName j) gNil)))) u D σ H := h _ fun H' e => ⟨a, [v1, v2], rfl, SqT.of (e _ _ ha), hn.symm, v1, [v2], rfl, v2, [], rfl, rfl, k H' e⟩
theorem s_ret {te : TE} {D : Ends} {σ : L2.St} {H : Hp} {v : V} (h : Ev te σ H v) (k : ∀ H', Same H H' → D.rt v H') : tRet te D σ H := h _ fun H' e => k H' e
theorem evb_is {tt : TT} {σ : L2.St} {H : Hp} {a b : Bool} (h : EvB tt σ H a) (e : a = b) : EvB tt σ H b := e ▸ h
theorem ev_is {te : TE} {σ : L2.St} {H : Hp} {a b : V} (h : Ev te σ H a) (e : a = b) : Ev te σ H b := e ▸ h
end Bc
namespace Bc
open PySem L2
def EvA (ta : TA) (σ : L2.St) (H : Hp) (vs : List V) : Prop := ∀ Q : List V → Hp → Prop, (∀ H', Same H H' → Q vs H') → ta σ H Q
theorem ea_nil {σ : L2.St} {H : Hp} : EvA tNil σ H [] := fun Q q => q H (Same.refl H)
theorem ea_cons {te : TE} {tr : TA} {σ : L2.St} {H : Hp} {v : V} {vs : List V} (h : Ev te σ H v) (k : ∀ H', Same H H' → EvA tr σ H' vs) : EvA (tCons te tr) σ H (v :: vs) := fun Q q => h _ fun H' e => k H' e _ fun H2 e2 => q H2 (e.trans e2)
theorem ev_call {sp : Sp} {E : XK} {t : TA} {σ : L2.St} {H : Hp} {vs : List V} {v : V} (h : EvA t σ H vs) (k : ∀ H', Same H H' → ∀ Q : VK, (∀ H2, Same H' H2 → Q v H2) → sp (vs ++ []) H' Q E) : Ev (tCall sp [] E t) σ H v := fun Q q =>
  h _ fun H' e => k H' e Q fun H2 e2 => q H2 (e.trans e2)
end Bc

namespace Bc
open PySem L2
theorem s_dput {td ty tv : TE} {D : Ends} {σ : L2.St} {H : Hp} {a : Addr} {kvs : List (Key × V)} {k : Key} {v : V} (hv : Ev tv σ H v) (hd : ∀ H', Same H H' → Ev td σ H' (.ref a)) (hk : ∀ H', Same H H' → Ev ty σ H' (kV k)) (h : H a = some (.dK kvs)) (hl : kvs.length < 100000)
    (q : ∀ H', Same H H' → D.nx σ (upd H' a (.dK (putK kvs k v)))) : sDPut td ty tv D σ H :=
  hv _ fun H1 e1 => hd H1 e1 _ fun H2 e2 => hk H2 (e1.trans e2) _ fun H3 e3 => ⟨a, _, rfl, DPut.k ((e1.trans (e2.trans e3)) _ _ h) (szl hl), q H3 (e1.trans (e2.trans e3))⟩
theorem q_dput {td ty tv : TE} {u : TS} {D : Ends} {σ : L2.St} {H : Hp} {a : Addr} {kvs : List (Key × V)} {k : Key} {v : V} (hv : Ev tv σ H v) (hd : ∀ H', Same H H' → Ev td σ H' (.ref a)) (hk : ∀ H', Same H H' → Ev ty σ H' (kV k)) (h : H a = some (.dK kvs)) (hl : kvs.length < 100000)
    (q : ∀ H', Same H H' → u D σ (upd H' a (.dK (putK kvs k v)))) : tSeq (sDPut td ty tv) u D σ H := s_dput (D := { D with nx := u D }) hv hd hk h hl q
/-- {} -/
theorem q_dnew {u : TS} {D : Ends} {σ : L2.St} {H : Hp} {i : Nat} (k : ∀ p, H p = none → u D (σ.set i (some (.ref p))) (upd H p (.dK []))) : tSeq (tAsg tDNewK (gName i)) u D σ H := fun p hp => k p hp
/-- a for over a tracked list that stays -/
theorem s_forL {K : PySem.W.Frag} {tl : TE} {j : Nat} {tb : TS} {D : Ends} {σ : L2.St} {H : Hp} {a : Addr} {xs : List V} (h : Ev tl σ H (.ref a)) (hx : H a = some (.lst xs)) (Pv : Nat → L2.St → Hp → Prop) (h0 : ∀ H', Same H H' → Pv 0 σ H')
    (hG : ∀ i σ' H', i ≤ xs.length → Pv i σ' H' → SqL K H' a xs) (hs : ∀ i x σ' H', xs[i]? = some x → Pv i σ' H' → tb { D with nx := Pv (i + 1), ct := Pv (i + 1), bk := D.nx } (σ'.set j (some x)) H') (hd : ∀ σ' H', Pv xs.length σ' H' → D.nx σ' H') :
    tFor (iList K tl) (gName j) tb D σ H := h _ fun H1 e1 => ⟨a, rfl, ⟨xs, SqL.of (e1 _ _ hx)⟩, for_it (walk_list (K := K) (a := a) (xs := xs)) Pv (h0 H1 e1) hG (fun i x σ' H2 H3 hi p y => by
      obtain ⟨rfl, hy⟩ := y
      exact hs i x σ' _ hy p) hd⟩
theorem q_forL {K : PySem.W.Frag} {tl : TE} {j : Nat} {tb u : TS} {D : Ends} {σ : L2.St} {H : Hp} {a : Addr} {xs : List V} (h : Ev tl σ H (.ref a)) (hx : H a = some (.lst xs)) (Pv : Nat → L2.St → Hp → Prop) (h0 : ∀ H', Same H H' → Pv 0 σ H')
    (hG : ∀ i σ' H', i ≤ xs.length → Pv i σ' H' → SqL K H' a xs) (hs : ∀ i x σ' H', xs[i]? = some x → Pv i σ' H' → tb { D with nx := Pv (i + 1), ct := Pv (i + 1), bk := u D } (σ'.set j (some x)) H') (hd : ∀ σ' H', Pv xs.length σ' H' → u D σ' H') :
    tSeq (tFor (iList K tl) (gName j) tb) u D σ H := s_forL (D := { D with nx := u D }) h hx Pv h0 hG hs hd
/-- an if without else, not taken, at the end of a block -/
theorem s_no {tt : TT} {t : TS} {D : Ends} {σ : L2.St} {H : Hp} (h : EvB tt σ H false) (k : ∀ H', Same H H' → D.nx σ H') : tIfS tt t tNext D σ H := h _ fun H' e => iteF (k H' e)
theorem ev_lenS {σ : L2.St} {H : Hp} {ta : TE} {z : Str} (ha : Ev ta σ H (.str z)) (hz : z.length ≤ 100000) : Ev (tCB (fun xs H Q => ∃ z : Str, xs = [V.str z] ∧ z.length ≤ sizeLine ∧ Q (.int z.length) H) (tCons ta tNil)) σ H (.int (z.length : Nat)) :=
  fun Q q => ha _ fun H' e => ⟨z, rfl, sz hz, q H' e⟩
theorem ev_chain {ta tb tc : TE} {σ : L2.St} {H : Hp} {g g' : Int → Int → Bool} {i j k : Int} (ha : Ev ta σ H (.int i)) (hb : ∀ H', Same H H' → Ev tb σ H' (.int j)) (hc : ∀ H', Same H H' → Ev tc σ H' (.int k)) :
    Ev (tChain (rI0 fun i j => .bl (g i j)) (rI0 fun i j => .bl (g' i j)) ta tb tc) σ H (.bl (g i j && g' j k)) := fun Q q => ha _ fun H1 e1 => hb H1 e1 _ fun H2 e2 => ⟨i, j, rfl, rfl, g i j, rfl, by
  cases hg : g i j with
  | true => exact iteT (hc H2 (e1.trans e2) _ fun H3 e3 => ⟨j, k, rfl, rfl, by have z := q H3 (e1.trans (e2.trans e3)); rw [hg] at z; exact z⟩)
  | false => exact iteF (by have z := q H2 (e1.trans e2); rw [hg] at z; exact z)⟩
theorem ev_ixS {ta tb : TE} {σ : L2.St} {H : Hp} {z : Str} {i : Nat} {c : Nat} (ha : Ev ta σ H (.str z)) (hb : ∀ H', Same H H' → Ev tb σ H' (.int (i : Nat))) (hz : z.length ≤ 100000) (hc : z.cps.toList[i]? = some c) : Ev (tOp rIxS ta tb) σ H (.str ⟨#[c]⟩) := fun Q q =>
  ha _ fun H1 e1 => hb H1 e1 _ fun H2 e2 => ⟨z, i, c, rfl, rfl, sz hz, atI_nat hc, q H2 (e1.trans e2)⟩
theorem ev_signIn {ta tb : TE} {σ : L2.St} {H : Hp} {z : Str} {c : Nat} (ha : Ev ta σ H (.str ⟨#[c]⟩)) (hb : ∀ H', Same H H' → Ev tb σ H' (.str z)) : Ev (tOp (fun x y H Q => ∃ (c : Nat) (z : Str), x = .str ⟨#[c]⟩ ∧ y = .str z ∧ Q (.bl (decide (c ∈ z.cps.toList))) H) ta tb) σ H (.bl (decide (c ∈ z.cps.toList))) :=
  fun Q q => ha _ fun H1 e1 => hb H1 e1 _ fun H2 e2 => ⟨c, z, rfl, rfl, q H2 (e1.trans e2)⟩
theorem ev_signNot {ta tb : TE} {σ : L2.St} {H : Hp} {z : Str} {c : Nat} (ha : Ev ta σ H (.str ⟨#[c]⟩)) (hb : ∀ H', Same H H' → Ev tb σ H' (.str z)) : Ev (tOp (fun x y H Q => ∃ (c : Nat) (z : Str), x = .str ⟨#[c]⟩ ∧ y = .str z ∧ Q (.bl (!decide (c ∈ z.cps.toList))) H) ta tb) σ H (.bl (!decide (c ∈ z.cps.toList))) :=
  fun Q q => ha _ fun H1 e1 => hb H1 e1 _ fun H2 e2 => ⟨c, z, rfl, rfl, q H2 (e1.trans e2)⟩
end Bc

namespace Bc
open PySem L2
/-- where everything stands -/
structure Ad where
  (init start len has eq leaders met kinds names isName rows areRows isRow isDrop inlets chMet draw lKnots lInlets refused law cNet cBad badInit cellBad codeBad : Addr)
  (dInit dStart dLen dHas dEq dLeaders dMet dKinds dNames dIsName dRows dAreRows dIsRow dIsDrop dInlets dChMet dDraw dLKnots dLInlets dRefused dLaw : FuncData) (fileBad : Str)
/-- no builtin's name is told anew; the constants -/
structure Tx (K : PySem.W.Frag) (mg : Str → Option Value) (a : Ad) : Prop where
  isinstance : mg "isinstance" = none
  len : mg "len" = none
  all : mg "all" = none
  sorted : mg "sorted" = none
  list : mg "list" = none
  tuple : mg "tuple" = none
  dict : mg "dict" = none
  str : mg "str" = none
  int : mg "int" = none
  range : mg "range" = none
  enumerate : mg "enumerate" = none
  reversed : mg "reversed" = none
  mKnots : ∃ t, mg "MOST_KNOTS" = some (.int 12 t)
  mDrops : ∃ t, mg "MOST_DROPS" = some (.int 12 t)
  mTargets : ∃ t, mg "MOST_TARGETS" = some (.int 4 t)
  mSigns : ∃ t, mg "MOST_SIGNS" = some (.int 16 t)
  letters : ∃ t, mg "LETTERS" = some (.str "abcdefghijklmnopqrstuvwxyz" t)
  signs : ∃ t, mg "SIGNS" = some (.str "abcdefghijklmnopqrstuvwxyz0123456789." t)
  gLeaders : mg "leaders" = some (.ref a.leaders)
  fLeaders : Fun K "leaders" "leaders" sLeaders a.leaders a.dLeaders
  gMet : mg "met_by_turn" = some (.ref a.met)
  fMet : Fun K "met_by_turn" "met_by_turn" sMet a.met a.dMet
  gKinds : mg "check_kinds" = some (.ref a.kinds)
  fKinds : Fun K "check_kinds" "check_kinds" sKinds a.kinds a.dKinds
  gNames : mg "check_names" = some (.ref a.names)
  fNames : Fun K "check_names" "check_names" sNames a.names a.dNames
  gIsName : mg "is_name" = some (.ref a.isName)
  fIsName : Fun K "is_name" "is_name" sIsName a.isName a.dIsName
  gRows : mg "check_rows" = some (.ref a.rows)
  fRows : Fun K "check_rows" "check_rows" sRows a.rows a.dRows
  gAreRows : mg "are_rows" = some (.ref a.areRows)
  fAreRows : Fun K "are_rows" "are_rows" sAreRows a.areRows a.dAreRows
  gIsRow : mg "is_row" = some (.ref a.isRow)
  fIsRow : Fun K "is_row" "is_row" sIsRow a.isRow a.dIsRow
  gIsDrop : mg "is_drop" = some (.ref a.isDrop)
  fIsDrop : Fun K "is_drop" "is_drop" sIsDrop a.isDrop a.dIsDrop
  gInlets : mg "check_inlets" = some (.ref a.inlets)
  fInlets : Fun K "check_inlets" "check_inlets" sInlets a.inlets a.dInlets
  gChMet : mg "check_met" = some (.ref a.chMet)
  fChMet : Fun K "check_met" "check_met" sChMet a.chMet a.dChMet
  gDraw : mg "_law_draw" = some (.ref a.draw)
  fDraw : Fun K "_law_draw" "_law_draw" sDraw a.draw a.dDraw
  gLKnots : mg "_law_knots" = some (.ref a.lKnots)
  fLKnots : Fun K "_law_knots" "_law_knots" sLKnots a.lKnots a.dLKnots
  gLInlets : mg "_law_inlets" = some (.ref a.lInlets)
  fLInlets : Fun K "_law_inlets" "_law_inlets" sLInlets a.lInlets a.dLInlets
  gRefused : mg "_law_refused" = some (.ref a.refused)
  fRefused : Fun K "_law_refused" "_law_refused" sTurned a.refused a.dRefused
  gNet : mg "Net" = some (.ref a.cNet)
  cl : Cls K a.cNet
  fInit : Fun K "__init__" "Net.__init__" sInit a.init a.dInit
  fStart : Fun K "start" "Net.start" sStart a.start a.dStart
  fLen : Fun K "__len__" "Net.__len__" sLen a.len a.dLen
  fHas : Fun K "__contains__" "Net.__contains__" sHas a.has a.dHas
  fEq : Fun K "__eq__" "Net.__eq__" sEq a.eq a.dEq
  mkN : Mk K a.cNet a.init
  mStart : Meth K a.cNet "start" a.start
  iLen : PySem.W.findIn K (.ref a.cNet) "__len__" = some (some (.ref a.len))
  iHas : PySem.W.findIn K (.ref a.cNet) "__contains__" = some (some (.ref a.has))
  iEq : PySem.W.findIn K (.ref a.cNet) "__eq__" = some (some (.ref a.eq))
  nKnots : NoAttr K a.cNet "knots"
  nInlets : NoAttr K a.cNet "inlets"
  nOutlets : NoAttr K a.cNet "outlets"
theorem b_isinstance : bootBuiltins "isinstance" = some (.builtin "isinstance") := by decide +kernel
theorem b_all : bootBuiltins "all" = some (.builtin "all") := by decide +kernel
theorem b_sorted : bootBuiltins "sorted" = some (.builtin "sorted") := by decide +kernel
theorem b_list : bootBuiltins "list" = some (.type "list") := by decide +kernel
theorem b_tuple : bootBuiltins "tuple" = some (.type "tuple") := by decide +kernel
theorem b_dict : bootBuiltins "dict" = some (.type "dict") := by decide +kernel
theorem b_str : bootBuiltins "str" = some (.type "str") := by decide +kernel
theorem b_int : bootBuiltins "int" = some (.type "int") := by decide +kernel
section
variable {X : Cx} {K : PySem.W.Frag} {a b : Expr} {ta tb : TE} {p pos : Pos}
/-- isinstance(a, T), T a built-in type -/
theorem pe_isi (hK : X.K = K) (hm : X.mg "isinstance" = none) (ha : PE X a ta) (hb : PE X b tb) (hg : Gl X "isinstance" := by rfl) (h1 : starEach (a :: b :: []) X.env = (false, eval a X.env) :: starEach (b :: []) X.env := by rfl) (h2 : starEach (b :: []) X.env = (false, eval b X.env) :: starEach [] X.env := by rfl)
    (hpl : (backTo pos (starEach (b :: []) X.env)).any (·.1) = false := by rfl) :
    PE X (.Call (.Name "isinstance" p) [a, b] [] pos) (tCB (rIsi K) (tCons ta (tCons tb tNil))) := by
  subst hK
  exact pe_callB (he := h1) (hpl := hpl) call_isi hg hm b_isinstance (pa_cons ha (pa_cons hb pa_nil h2) h1)
theorem pe_ty {n : Str} {T : String} (hm : X.mg n = none) (hv : bootBuiltins n = some (.type T)) (hg : Gl X n := by rfl) (hn : n ≠ "__name__" := by decide) (hd : (n == ("__debug__" : Str)) = false := by decide) : PE X (.Name n pos) (tC (.ty T)) := pe_bltn (v := .ty T) hg hm hv rfl hn hd
end
/-- beside: the error's class -/
structure Tb (P : Program) (K : PySem.W.Frag) (mg : Str → Option Value) (a : Ad) : Prop where
  tx : Tx K mg a
  bad : PySem.Bn.Txt K mg a.cBad a.badInit a.cellBad a.codeBad a.fileBad
  kC : PySem.W.keepIn K (.ref a.cBad) = true
  exC : PySem.W.subIn K (.ref a.cBad) (.type "BaseException") = some true
  tyC : PySem.W.typeIn K (.ref a.cBad) = some (.type "type")
  te : PySem.W.exmOne K (.ref a.cBad) (.ref a.cBad) = some true
  file_ : ((P.main.file : Str) == a.fileBad) = true
  top_ : (P.main.scope.names.lookup ("super" : Str)).isSome = false
  xf : XfC K a.cBad
theorem Tb.at {P : Program} {K : PySem.W.Frag} {mg : Str → Option Value} {a : Ad} (T : Tb P K mg a) {X : Cx} (h1 : X.prog = P) (h2 : X.K = K) (h3 : X.mg = mg) : Bn.BadC X a.cBad a.badInit a.cellBad a.codeBad a.fileBad := by
  subst h1 h2 h3
  exact ⟨T.bad, T.kC, T.exC, T.tyC, T.file_, T.top_⟩
/-- BadNet with that name, raised: the heap as it was, but for the error's own dict -/
def Raised (C : Addr) (v : V) (H : Hp) (E : XK) : Prop := ∀ d H', Same H H' → H' d = none → E (.ref C) (some d) (upd H' d (.xd [(("name" : Str), v)]))
/-! ### what kind of thing data is -/
def isTupB : PyData → Bool
  | .tuple _ => true
  | _ => false
def isStrB : PyData → Bool
  | .str _ => true
  | _ => false
section
variable {K : PySem.W.Frag} {σ : L2.St} {H : Hp} {ta tb : TE}
theorem ev_tupD {v : V} {d : PyData} (ha : Ev ta σ H v) (h : Dt H v d) : Ev (tCB (rIsi K) (tCons ta (tCons (tC (.ty "tuple")) tNil))) σ H (.bl (isTupB d)) := by
  cases h with
  | non => exact ev_isi (b := false) ha (fun H' e => .base .non) (kit_ty (by decide +kernel))
  | bl b => exact ev_isi (b := false) ha (fun H' e => .base (.bl b)) (kit_ty (by decide +kernel))
  | int i => exact ev_isi (b := false) ha (fun H' e => .base (.int i)) (kit_ty (by decide +kernel))
  | str x => exact ev_isi (b := false) ha (fun H' e => .base (.str x)) (kit_ty (by decide +kernel))
  | lst h _ => exact ev_isi (b := false) ha (fun H' e => .base (.lst (e _ _ h))) (kit_ty (by decide +kernel))
  | tup h _ => exact ev_isTup ha h
theorem ev_strD {v : V} {d : PyData} (ha : Ev ta σ H v) (h : Dt H v d) : Ev (tCB (rIsi K) (tCons ta (tCons (tC (.ty "str")) tNil))) σ H (.bl (isStrB d)) := by
  cases h with
  | non => exact ev_isi (b := false) ha (fun H' e => .base .non) (kit_ty (by decide +kernel))
  | bl b => exact ev_isi (b := false) ha (fun H' e => .base (.bl b)) (kit_ty (by decide +kernel))
  | int i => exact ev_isi (b := false) ha (fun H' e => .base (.int i)) (kit_ty (by decide +kernel))
  | str x => exact ev_isStr ha
  | lst h _ => exact ev_isi (b := false) ha (fun H' e => .base (.lst (e _ _ h))) (kit_ty (by decide +kernel))
  | tup h _ => exact ev_isi (b := false) ha (fun H' e => .base (.tup (e _ _ h))) (kit_ty (by decide +kernel))
end
/-- an if that is taken and leaves -/
theorem q_yes {tt : TT} {t u : TS} {D : Ends} {σ : L2.St} {H : Hp} (h : EvB tt σ H true) (k : ∀ H', Same H H' → t { D with nx := u D } σ H') : tSeq (tIfS tt t tNext) u D σ H := h _ fun H' e => iteT (k H' e)
section
variable {P : Program} {w : World} {K : PySem.W.Frag} {mg : Str → Option Value} {base : Heap} {ad : Ad}
/-! ### is_drop of anything -/
def strD (S : Str → Bool) : PyData → Bool
  | .str x => S x
  | _ => false
def okDrop (S : Str → Bool) : PyData → Bool
  | .tuple ds => decide (ds.length ≤ 4) && ds.all (strD S)
  | _ => false
def sizeD : PyData → Nat
  | .tuple ds => ds.length
  | .list ds => ds.length
  | _ => 0
/-- the names of a dict of targets: just these -/
def TgB (H : Hp) (t : Addr) (S : Str → Bool) : Prop := ∃ kvs, H t = some (.dK kvs) ∧ ∀ x, (valV kvs (.inr x)).isSome = S x
theorem TgB.go {H H' : Hp} {t : Addr} {S : Str → Bool} (h : TgB H t S) (e : Same H H') : TgB H' t S := let ⟨k, h1, h2⟩ := h; ⟨k, e _ _ h1, h2⟩
def spDrop : Sp := fun vs H Q _ => ∃ (v : V) (t : Addr) (d : PyData) (S : Str → Bool), vs = [v, .ref t] ∧ Dt H v d ∧ sizeD d ≤ 1000 ∧ TgB H t S ∧ ∀ H', Same H H' → Q (.bl (okDrop S d)) H'
theorem scDrop : FnScope ["told", "targets", "target"] ["told", "targets"] (defScope sIsDrop) := ⟨rfl, rfl, rfl, by decide +kernel, rfl, by decide +kernel, by decide +kernel⟩
theorem all_get {ds : List PyData} {f : PyData → Bool} : ((List.range ds.length).map fun i => f (ds[i]?.getD .none)).all id = ds.all f := by
  have e : (List.range ds.length).map (fun i => f (ds[i]?.getD .none)) = ds.map f := by
    refine List.ext_getElem? fun i => ?_
    rw [List.getElem?_map, List.getElem?_map]
    by_cases hi : i < ds.length
    · rw [List.getElem?_range hi, List.getElem?_eq_getElem hi]
      show some (f (ds[i]?.getD .none)) = _
      rw [List.getElem?_eq_getElem hi]
      rfl
    · rw [List.getElem?_eq_none_iff.mpr (by rw [List.length_range]; omega), List.getElem?_eq_none_iff.mpr (by omega)]
      rfl
  rw [e, List.all_map]
  rfl
theorem ok_drop (T : Tx K mg ad) : FnOk P w K mg base CX0 2 ad.isDrop ad.dIsDrop ["told", "targets"] spDrop := by
  refine T.fIsDrop.ok scDrop (fun vs H Q E h => ?_) (fun cdv A outer s H vs Q E hr h => ?_)
  · obtain ⟨v, t, d, S, rfl, _⟩ := h
    rfl
  · obtain ⟨v, t, d, S, rfl, hd, hz, ht, k⟩ := h
    obtain ⟨tT, gT⟩ := T.mTargets
    refine ⟨_, pss_cons (ps_if (PW.pt (pw_or (pt_not (pt_val (pe_isi rfl T.isinstance (pv 0) (pe_ty T.tuple b_tuple))))
        (pw_or1 (pt_cmpR op_gt (pe_callB call_len_seq (by rfl) T.len PySem.boot_len (pa_cons (pv 0) pa_nil)) (pe_glob (v := .int 4) (by rfl) gT ⟨_, rfl⟩) (nomark _))))) (pss_one (ps_ret pe_bl)) pss_nil)
      (pss_one (ps_ret (pe_callB (cr_all rfl) (by rfl) T.all b_all (pa_cons (pe_lc (own := [("target", 2)]) (g := gName 2) (tt := tYes) rfl scDrop.nd (pi_tup (pv 0)) (blkOk_by (N := ["told", "targets", "target"]) (sc := defScope sIsDrop) (by decide +kernel))
        (fun _ _ _ _ _ => pg_name (i := 2) scDrop.nd rfl (Or.inl rfl)) (fun _ _ _ _ _ => pts_nil) (fun _ _ _ _ _ => pe_and (pe_isi (K := K) rfl T.isinstance (pv 2) (pe_ty T.str b_str))
          (pe_one (pe_cmp (pc_din (hu_of hr) (pv 2) (pv 1)) rfl)))) pa_nil)))), ?_⟩
    by_cases hT : ∃ ds, d = .tuple ds
    · obtain ⟨ds, rfl⟩ := hT
      cases hd with
      | @tup a xs _ ha hx =>
      have hlen := hx.length
      have hz' : ds.length ≤ 1000 := hz
      have test : EvB (tOr (tNot (tB (tCB (rIsi K) (tCons (tVar 0) (tCons (tC (.ty "tuple")) tNil))))) (tTest (tOp (rI0 fun i j => .bl (decide (j < i))) (tCB (rLen K) (tCons (tVar 0) tNil)) (tC (.int 4))))) [some (.ref a), some (.ref t), none] H (!true || decide ((4 : Int) < (xs.length : Int))) :=
        EvB.or (EvB.not (EvB.of (ev_isTup (ev_tv rfl) ha))) fun _ H1 e1 => EvB.of' (ev_I0 (ev_lenT (ev_tv rfl) (e1 _ _ ha)) fun _ _ => ev_tc)
      by_cases h4 : ds.length ≤ 4
      · refine q_no (evb_is test ?_) fun H1 e1 => ?_
        · simp
          omega
        · obtain ⟨kvs, hkv, hin⟩ := ht
          refine s_ret (ev_is (ev_all (bs := (List.range xs.length).map fun i => strD S (ds[i]?.getD .none)) fun Q1 q1 => ?_) (by rw [hlen, all_get])) fun H' e => ?_
          · refine ⟨_, rfl, a, rfl, ⟨_, SqT.of (e1 _ _ ha)⟩, fun D hD => ?_⟩
            refine lc_vals (walk_tup (K := K) (a := a) (xs := xs)) (fun i => .bl (strD S (ds[i]?.getD .none))) hD (by omega) (fun H2 e2 => SqT.of (e2 _ _ (e1 _ _ ha))) (fun x => rfl) (fun i x H2 H3 hi e2 hy => ?_) (fun H2 e2 hl => q1 D H2 e2 (by rw [hl, ← map_bls]))
            obtain ⟨rfl, hy⟩ := hy
            obtain ⟨dd, h1, h2⟩ := hx.getV hy
            have h2' := h2.go (e1.trans e2)
            rw [h1]
            refine ⟨Same.refl _, ?_⟩
            show Ev _ _ _ (.bl (strD S dd))
            by_cases hS : ∃ z, dd = .str z
            · obtain ⟨z, rfl⟩ := hS
              cases h2' with
              | str z =>
              refine ev_is (Ev.andV (ev_isStr (ev_tv rfl)) fun _ H4 e4 => ev_inD (k := .inr z) (ev_tv rfl) (fun _ _ => ev_tv rfl) (e4 _ _ (e2 _ _ (e1 _ _ hkv)))) ?_
              rw [hin]
              rfl
            · have e0 : isStrB dd = false := by
                cases dd with
                | str z => exact absurd ⟨z, rfl⟩ hS
                | _ => rfl
              have e3 : strD S dd = false := by
                cases dd with
                | str z => exact absurd ⟨z, rfl⟩ hS
                | _ => rfl
              rw [e3]
              refine Ev.andV (a := false) (b := false) (ev_is (ev_strD (ev_tv rfl) h2') (by rw [e0])) fun z => nomatch z
          · have e2 : okDrop S (.tuple ds) = ds.all (strD S) := by
              show (decide (ds.length ≤ 4) && ds.all (strD S)) = _
              rw [decide_eq_true h4]
              rfl
            have z := k H' (e1.trans e)
            rw [e2] at z
            exact z
      · refine q_yes (evb_is test ?_) fun H1 e1 => s_ret ev_tc fun H' e => ?_
        · simp
          omega
        · have e2 : okDrop S (.tuple ds) = false := by
            show (decide (ds.length ≤ 4) && ds.all (strD S)) = _
            rw [decide_eq_false h4]
            rfl
          have z := k H' (e1.trans e)
          rw [e2] at z
          exact z
    · have e1 : isTupB d = false := by
        cases d with
        | tuple ds => exact absurd ⟨ds, rfl⟩ hT
        | _ => rfl
      have e2 : okDrop S d = false := by
        cases d with
        | tuple ds => exact absurd ⟨ds, rfl⟩ hT
        | _ => rfl
      refine q_yes (evb_is (EvB.or (b := false) (EvB.not (EvB.of (ev_is (ev_tupD (ev_tv rfl) hd) (by rw [e1])))) fun z => absurd z (by decide)) rfl) fun H1 e3 => s_ret ev_tc fun H' e => ?_
      have z := k H' (e3.trans e)
      rw [e2] at z
      exact z
end
end Bc

namespace Bc
open PySem L2
section
variable {P : Program} {w : World} {K : PySem.W.Frag} {mg : Str → Option Value} {base : Heap} {ad : Ad}
def subsD : PyData → List PyData
  | .tuple ds => ds
  | .list ds => ds
  | _ => []
def smallN : Nat → PyData → Prop
  | 0, d => sizeD d ≤ 1000
  | n + 1, d => sizeD d ≤ 1000 ∧ ∀ e ∈ subsD d, smallN n e
theorem smallN.size {n : Nat} {d : PyData} (h : smallN n d) : sizeD d ≤ 1000 := by
  cases n with
  | zero => exact h
  | succ n => exact h.1
def okRow (S : Str → Bool) : PyData → Bool
  | .tuple ds => decide (ds.length ≤ 12) && ds.all (okDrop S)
  | _ => false
theorem not_tup {d : PyData} (h : ¬ ∃ ds, d = .tuple ds) : isTupB d = false := by
  cases d with
  | tuple ds => exact absurd ⟨ds, rfl⟩ h
  | _ => rfl
theorem not_row {S : Str → Bool} {d : PyData} (h : ¬ ∃ ds, d = .tuple ds) : okRow S d = false := by
  cases d with
  | tuple ds => exact absurd ⟨ds, rfl⟩ h
  | _ => rfl
/-! ### is_row of anything -/
def spRow : Sp := fun vs H Q _ => ∃ (v : V) (t : Addr) (d : PyData) (S : Str → Bool), vs = [v, .ref t] ∧ Dt H v d ∧ smallN 1 d ∧ TgB H t S ∧ ∀ H', Same H H' → Q (.bl (okRow S d)) H'
theorem scRow : FnScope ["told", "targets", "drop"] ["told", "targets"] (defScope sIsRow) := ⟨rfl, rfl, rfl, by decide +kernel, rfl, by decide +kernel, by decide +kernel⟩
theorem ok_row (T : Tx K mg ad) : FnOk P w K mg base CX0 3 ad.isRow ad.dIsRow ["told", "targets"] spRow := by
  have GD : FnOk P w K mg base CX0 2 ad.isDrop ad.dIsDrop ["told", "targets"] spDrop := ok_drop T
  have bD := T.fIsDrop.binds (ps := ["told", "targets"]) fun _ _ _ _ _ _ us hl => match us, hl with | [_, _], _ => rfl
  refine T.fIsRow.ok scRow (fun vs H Q E h => ?_) (fun cdv A outer s H vs Q E hr h => ?_)
  · obtain ⟨v, t, d, S, rfl, _⟩ := h
    rfl
  · obtain ⟨v, t, d, S, rfl, hd, sm, ht, k⟩ := h
    obtain ⟨tT, gT⟩ := T.mDrops
    refine ⟨_, pss_cons (ps_if (PW.pt (pw_or (pt_not (pt_val (pe_isi rfl T.isinstance (pv 0) (pe_ty T.tuple b_tuple))))
        (pw_or1 (pt_cmpR op_gt (pe_callB call_len_seq (by rfl) T.len PySem.boot_len (pa_cons (pv 0) pa_nil)) (pe_glob (v := .int 12) (by rfl) gT ⟨_, rfl⟩) (nomark _))))) (pss_one (ps_ret pe_bl)) pss_nil)
      (pss_one (ps_ret (pe_callB (cr_all rfl) (by rfl) T.all b_all (pa_cons (pe_lc (own := [("drop", 2)]) (g := gName 2) (tt := tYes) rfl scRow.nd (pi_tup (pv 0)) (blkOk_by (N := ["told", "targets", "drop"]) (sc := defScope sIsRow) (by decide +kernel))
        (fun _ _ _ _ _ => pg_name (i := 2) scRow.nd rfl (Or.inl rfl)) (fun _ _ _ _ _ => pts_nil) (fun _ _ _ _ _ => pe_call GD hr (by rfl) T.gIsDrop T.fIsDrop.kp bD .nil pass0 (pa_cons (pv 2) (pa_cons (pv 1) pa_nil)))) pa_nil)))), ?_⟩
    by_cases hT : ∃ ds, d = .tuple ds
    · obtain ⟨ds, rfl⟩ := hT
      cases hd with
      | @tup a xs _ ha hx =>
      have hlen := hx.length
      have hz : ds.length ≤ 1000 := sm.1
      have test : EvB (tOr (tNot (tB (tCB (rIsi K) (tCons (tVar 0) (tCons (tC (.ty "tuple")) tNil))))) (tTest (tOp (rI0 fun i j => .bl (decide (j < i))) (tCB (rLen K) (tCons (tVar 0) tNil)) (tC (.int 12))))) [some (.ref a), some (.ref t), none] H (!true || decide ((12 : Int) < (xs.length : Int))) :=
        EvB.or (EvB.not (EvB.of (ev_isTup (ev_tv rfl) ha))) fun _ H1 e1 => EvB.of' (ev_I0 (ev_lenT (ev_tv rfl) (e1 _ _ ha)) fun _ _ => ev_tc)
      by_cases h4 : ds.length ≤ 12
      · refine q_no (evb_is test ?_) fun H1 e1 => ?_
        · simp
          omega
        · refine s_ret (ev_is (ev_all (bs := (List.range xs.length).map fun i => okDrop S (ds[i]?.getD .none)) fun Q1 q1 => ?_) (by rw [hlen, all_get])) fun H' e => ?_
          · refine ⟨_, rfl, a, rfl, ⟨_, SqT.of (e1 _ _ ha)⟩, fun D hD => ?_⟩
            refine lc_vals (walk_tup (K := K) (a := a) (xs := xs)) (fun i => .bl (okDrop S (ds[i]?.getD .none))) hD (by omega) (fun H2 e2 => SqT.of (e2 _ _ (e1 _ _ ha))) (fun x => rfl) (fun i x H2 H3 hi e2 hy => ?_) (fun H2 e2 hl => q1 D H2 e2 (by rw [hl, ← map_bls]))
            obtain ⟨rfl, hy⟩ := hy
            obtain ⟨dd, h1, h2⟩ := hx.getV hy
            rw [h1]
            refine ⟨Same.refl _, ?_⟩
            show Ev _ _ _ (.bl (okDrop S dd))
            exact ev_call (ea_cons (ev_tv rfl) fun _ _ => ea_cons (ev_tv rfl) fun _ _ => ea_nil) fun H4 e4 Q4 q4 => ⟨x, t, dd, S, rfl, h2.go (e1.trans (e2.trans e4)), sm.2 dd (List.mem_of_getElem? h1), ht.go (e1.trans (e2.trans e4)), q4⟩
          · have e2 : okRow S (.tuple ds) = ds.all (okDrop S) := by
              show (decide (ds.length ≤ 12) && ds.all (okDrop S)) = _
              rw [decide_eq_true h4]
              rfl
            have z := k H' (e1.trans e)
            rw [e2] at z
            exact z
      · refine q_yes (evb_is test ?_) fun H1 e1 => s_ret ev_tc fun H' e => ?_
        · simp
          omega
        · have e2 : okRow S (.tuple ds) = false := by
            show (decide (ds.length ≤ 12) && ds.all (okDrop S)) = _
            rw [decide_eq_false h4]
            rfl
          have z := k H' (e1.trans e)
          rw [e2] at z
          exact z
    · refine q_yes (evb_is (EvB.or (b := false) (EvB.not (EvB.of (ev_is (ev_tupD (ev_tv rfl) hd) (by rw [not_tup hT])))) fun z => absurd z (by decide)) rfl) fun H1 e3 => s_ret ev_tc fun H' e => ?_
      have z := k H' (e3.trans e)
      rw [not_row hT] at z
      exact z
/-! ### are_rows of anything -/
def tlen : PyData → Nat
  | .tuple ds => ds.length
  | _ => 0
def okRows (S : Str → Bool) : PyData → Bool
  | .tuple [f, t] => okRow S f && (okRow S t && decide (0 < tlen t))
  | _ => false
theorem rows_no {S : Str → Bool} {d : PyData} (h : ¬ ∃ f t, d = .tuple [f, t]) : okRows S d = false := by
  unfold okRows
  split
  · rename_i f t
    exact absurd ⟨f, t, rfl⟩ h
  · rfl
def spAreRows : Sp := fun vs H Q _ => ∃ (v : V) (t : Addr) (d : PyData) (S : Str → Bool), vs = [v, .ref t] ∧ Dt H v d ∧ smallN 2 d ∧ TgB H t S ∧ ∀ H', Same H H' → Q (.bl (okRows S d)) H'
theorem scAreRows : FnScope ["told", "targets", "front", "turn"] ["told", "targets"] (defScope sAreRows) := ⟨rfl, rfl, rfl, by decide +kernel, rfl, by decide +kernel, by decide +kernel⟩
theorem ok_areRows (T : Tx K mg ad) : FnOk P w K mg base CX0 4 ad.areRows ad.dAreRows ["told", "targets"] spAreRows := by
  have GR : FnOk P w K mg base CX0 3 ad.isRow ad.dIsRow ["told", "targets"] spRow := ok_row T
  have bR := T.fIsRow.binds (ps := ["told", "targets"]) fun _ _ _ _ _ _ us hl => match us, hl with | [_, _], _ => rfl
  refine T.fAreRows.ok scAreRows (fun vs H Q E h => ?_) (fun cdv A outer s H vs Q E hr h => ?_)
  · obtain ⟨v, t, d, S, rfl, _⟩ := h
    rfl
  · obtain ⟨v, t, d, S, rfl, hd, sm, ht, k⟩ := h
    refine ⟨_, pss_cons (ps_if (PW.pt (pw_or (pt_not (pt_val (pe_isi rfl T.isinstance (pv 0) (pe_ty T.tuple b_tuple))))
        (pw_or1 (pt_cmpR op_ne (pe_callB call_len_seq (by rfl) T.len PySem.boot_len (pa_cons (pv 0) pa_nil)) pe_int (nomark _))))) (pss_one (ps_ret pe_bl)) pss_nil)
      (pss_cons (ps_asg (pv 0) (pg_tup (by rfl) (pgs_cons (pg_name (i := 2) scAreRows.nd rfl (Or.inl rfl)) (pgs_cons (pg_name (i := 3) scAreRows.nd rfl (Or.inl rfl)) pgs_nil))))
      (pss_one (ps_ret (pe_and (pe_call GR hr (by rfl) T.gIsRow T.fIsRow.kp bR .nil pass0 (pa_cons (pv 2) (pa_cons (pv 1) pa_nil))) (pe_and (pe_call GR hr (by rfl) T.gIsRow T.fIsRow.kp bR .nil pass0 (pa_cons (pv 3) (pa_cons (pv 1) pa_nil)))
        (pe_one (pe_cmpR op_gt (pe_callB call_len_seq (by rfl) T.len PySem.boot_len (pa_cons (pv 3) pa_nil)) pe_int (nomark _)))))))), ?_⟩
    by_cases hT : ∃ ds, d = .tuple ds
    · obtain ⟨ds, rfl⟩ := hT
      cases hd with
      | @tup a xs _ ha hx =>
      have hlen := hx.length
      have test : EvB (tOr (tNot (tB (tCB (rIsi K) (tCons (tVar 0) (tCons (tC (.ty "tuple")) tNil))))) (tTest (tOp rNe (tCB (rLen K) (tCons (tVar 0) tNil)) (tC (.int 2))))) [some (.ref a), some (.ref t), none, none] H (!true || !decide (V.int (xs.length : Nat) = V.int 2)) :=
        EvB.or (EvB.not (EvB.of (ev_isTup (ev_tv rfl) ha))) fun _ H1 e1 => EvB.of' (ev_ne (ev_lenT (ev_tv rfl) (e1 _ _ ha)) (fun _ _ => ev_tc) rfl)
      by_cases h2 : ds.length = 2
      · obtain ⟨f, t2, rfl⟩ : ∃ f t2, ds = [f, t2] := by
          match ds, h2 with
          | [f, t2], _ => exact ⟨f, t2, rfl⟩
        cases hx with
        | cons hf hx =>
        rename_i vf xs
        cases hx with
        | cons ht' hx =>
        rename_i vt xs
        cases hx
        refine q_no (evb_is test (by simp)) fun H1 e1 => ?_
        refine q_unpack2 (ev_tv rfl) (e1 _ _ ha) fun H0 e0 => ?_
        replace e1 := e1.trans e0
        have smf : smallN 1 f := sm.2 f List.mem_cons_self
        have smt : smallN 1 t2 := sm.2 t2 (List.mem_cons_of_mem _ List.mem_cons_self)
        refine s_ret (Ev.andV (ev_call (v := .bl (okRow S f)) (ea_cons (ev_tv rfl) fun _ _ => ea_cons (ev_tv rfl) fun _ _ => ea_nil) fun H4 e4 Q4 q4 => ⟨vf, t, f, S, rfl, hf.go (e1.trans e4), smf, ht.go (e1.trans e4), q4⟩)
          fun _ H2 e2 => Ev.andV (ev_call (v := .bl (okRow S t2)) (ea_cons (ev_tv rfl) fun _ _ => ea_cons (ev_tv rfl) fun _ _ => ea_nil) fun H4 e4 Q4 q4 => ⟨vt, t, t2, S, rfl, ht'.go (e1.trans (e2.trans e4)), smt, ht.go (e1.trans (e2.trans e4)), q4⟩)
            fun hb H3 e3 => ?_) fun H' e => k H' (e1.trans e)
        cases t2 with
        | tuple es =>
          cases ht' with
          | @tup b ys _ hb hy =>
            refine ev_is (ev_I0 (ev_lenT (ev_tv rfl) (e3 _ _ (e2 _ _ (e1 _ _ hb)))) fun _ _ => ev_tc) ?_
            rw [hy.length]
            show V.bl (decide ((0 : Int) < (es.length : Int))) = V.bl (decide (0 < es.length))
            by_cases h : 0 < es.length
            · rw [decide_eq_true h, decide_eq_true (by omega)]
            · rw [decide_eq_false h, decide_eq_false (by omega)]
        | _ => cases hb
      · refine q_yes (evb_is test ?_) fun H1 e1 => s_ret ev_tc fun H' e => ?_
        · have h3 : ¬ xs.length = 2 := by omega
          have : decide (V.int (xs.length : Nat) = V.int 2) = false := decide_eq_false fun z => h3 (by injection z with z; omega)
          rw [this]
          rfl
        · have z := k H' (e1.trans e)
          rw [rows_no fun ⟨f, t2, q⟩ => h2 (by injection q with q; rw [q]; rfl)] at z
          exact z
    · refine q_yes (evb_is (EvB.or (b := false) (EvB.not (EvB.of (ev_is (ev_tupD (ev_tv rfl) hd) (by rw [not_tup hT])))) fun z => absurd z (by decide)) rfl) fun H1 e3 => s_ret ev_tc fun H' e => ?_
      have z := k H' (e3.trans e)
      rw [rows_no fun ⟨f, t2, q⟩ => hT ⟨_, q⟩] at z
      exact z
end
end Bc

namespace Bc
open PySem L2
section
variable {P : Program} {w : World} {K : PySem.W.Frag} {mg : Str → Option Value} {base : Heap} {ad : Ad}
/-! ### is_name -/
def letters : Str := "abcdefghijklmnopqrstuvwxyz"
def signs : Str := "abcdefghijklmnopqrstuvwxyz0123456789."
def okName (z : Str) : Bool := decide (1 ≤ (z.length : Int)) && decide ((z.length : Int) ≤ 16) && (match z.cps.toList with | [] => false | c :: _ => decide (c ∈ letters.cps.toList)) && z.cps.toList.all fun c => decide (c ∈ signs.cps.toList)
def spIsName : Sp := fun vs H Q _ => ∃ z : Str, vs = [.str z] ∧ z.length ≤ 1000 ∧ ∀ H', Same H H' → Q (.bl (okName z)) H'
theorem scIsName : FnScope ["text", "sign"] ["text"] (defScope sIsName) := ⟨rfl, rfl, rfl, by decide +kernel, rfl, by decide +kernel, by decide +kernel⟩
theorem ok_isName (T : Tx K mg ad) : FnOk P w K mg base CX0 2 ad.isName ad.dIsName ["text"] spIsName := by
  refine T.fIsName.ok scIsName (fun vs H Q E h => ?_) (fun cdv A outer s H vs Q E hr h => ?_)
  · obtain ⟨z, rfl, _⟩ := h
    rfl
  · obtain ⟨z, rfl, hz, k⟩ := h
    obtain ⟨t1, gM⟩ := T.mSigns
    obtain ⟨t2, gL⟩ := T.letters
    obtain ⟨t3, gS⟩ := T.signs
    refine ⟨_, pss_cons (ps_if (PW.pt (pw_or (pt_not (pt_chain op_le op_le pe_int (pe_callB call_len_str (by rfl) T.len PySem.boot_len (pa_cons (pv 0) pa_nil)) (pe_glob (v := .int 16) (by rfl) gM ⟨_, rfl⟩)))
        (pw_or1 (pt_cmpR op_notIn_sign (pe_ix ix_str (pv 0) pe_int (fun _ _ => rfl)) (pe_glob (v := .str letters) (by rfl) gL ⟨_, rfl⟩) (by rfl))))) (pss_one (ps_ret pe_bl)) pss_nil)
      (pss_one (ps_ret (pe_callB (cr_all rfl) (by rfl) T.all b_all (pa_cons (pe_lc (own := [("sign", 1)]) (g := gName 1) (tt := tYes) rfl scIsName.nd (pi_str (pv 0)) (blkOk_by (N := ["text", "sign"]) (sc := defScope sIsName) (by decide +kernel))
        (fun _ _ _ _ _ => pg_name (i := 1) scIsName.nd rfl (Or.inl rfl)) (fun _ _ _ _ _ => pts_nil) (fun _ _ _ _ _ => pe_cmpR op_in_sign (pv 1) (pe_glob (v := .str signs) (by rfl) gS ⟨_, rfl⟩) (by rfl))) pa_nil)))), ?_⟩
    have key : ∀ H1, Same H H1 → EvB (tOr (tNot (tTest (tChain (rI0 fun i j => .bl (decide (i ≤ j))) (rI0 fun i j => .bl (decide (i ≤ j))) (tC (.int 1)) (tCB (fun xs H Q => ∃ z : Str, xs = [V.str z] ∧ z.length ≤ sizeLine ∧ Q (.int z.length) H) (tCons (tVar 0) tNil)) (tC (.int 16)))))
        (tTest (tOp (fun x y H Q => ∃ (c : Nat) (z : Str), x = .str ⟨#[c]⟩ ∧ y = .str z ∧ Q (.bl (!decide (c ∈ z.cps.toList))) H) (tOp rIxS (tVar 0) (tC (.int 0))) (tC (.str letters))))) [some (.str z), none] H1
        (!(decide (1 ≤ (z.length : Int)) && decide ((z.length : Int) ≤ 16)) || !(match z.cps.toList with | [] => false | c :: _ => decide (c ∈ letters.cps.toList))) := fun H1 e1 => by
      refine EvB.or (EvB.not (EvB.of' (ev_chain (g := fun i j => decide (i ≤ j)) (g' := fun i j => decide (i ≤ j)) ev_tc (fun _ _ => ev_lenS (ev_tv rfl) (by omega)) fun _ _ => ev_tc))) fun h H2 e2 => EvB.of' ?_
      have h1 : 1 ≤ z.length := by
        simp at h
        omega
      obtain ⟨c, r, hc⟩ : ∃ c r, z.cps.toList = c :: r := by
        cases hq : z.cps.toList with
        | nil =>
          have : z.length = 0 := by
            show z.cps.size = 0
            rw [← Array.length_toList, hq]
            rfl
          omega
        | cons c r => exact ⟨c, r, rfl⟩
      rw [hc]
      exact ev_signNot (ev_ixS (i := 0) (ev_tv rfl) (fun _ _ => ev_tc) (by omega) (by rw [hc]; rfl)) fun _ _ => ev_tc
    by_cases hb : (!(decide (1 ≤ (z.length : Int)) && decide ((z.length : Int) ≤ 16)) || !(match z.cps.toList with | [] => false | c :: _ => decide (c ∈ letters.cps.toList))) = true
    · have e0 : okName z = false := by
        unfold okName
        cases h1 : (decide (1 ≤ (z.length : Int)) && decide ((z.length : Int) ≤ 16)) with
        | false => simp
        | true =>
          rw [h1] at hb
          cases h2 : (match z.cps.toList with | [] => false | c :: _ => decide (c ∈ letters.cps.toList)) with
          | false => simp
          | true =>
            rw [h2] at hb
            simp at hb
      have z1 := key H (Same.refl H)
      rw [hb] at z1
      refine if_yes z1 fun H1 e1 => s_ret ev_tc fun H2 e2 => ?_
      have z2 := k H2 (e1.trans e2)
      rw [e0] at z2
      exact z2
    · have hb' := Bool.eq_false_iff.mpr hb
      have e0 : okName z = (z.cps.toList.all fun c => decide (c ∈ signs.cps.toList)) := by
        unfold okName
        cases h1 : (decide (1 ≤ (z.length : Int)) && decide ((z.length : Int) ≤ 16)) with
        | false =>
          rw [h1] at hb'
          simp at hb'
        | true =>
          rw [h1] at hb'
          cases h2 : (match z.cps.toList with | [] => false | c :: _ => decide (c ∈ letters.cps.toList)) with
          | false =>
            rw [h2] at hb'
            simp at hb'
          | true => simp
      have z1 := key H (Same.refl H)
      rw [hb'] at z1
      refine q_no z1 fun H1 e1 => ?_
      refine s_ret (ev_all (bs := (List.range z.cps.size).map fun i => decide (z.cps.toList.getD i 0 ∈ signs.cps.toList)) fun Q1 q1 => ?_) fun H2 e2 => ?_
      · refine ⟨_, rfl, z, rfl, fun D hD => ?_⟩
        refine lc_vals walk_str (fun i => .bl (decide (z.cps.toList.getD i 0 ∈ signs.cps.toList))) hD (by show z.length < _; omega) (fun _ _ => True.intro) (fun x => rfl) (fun i x H2 H3 hi e2 hy => ?_) (fun H2 e2 hl => q1 D H2 e2 (by rw [hl, ← map_bls]))
        obtain ⟨rfl, c, hc, rfl⟩ := hy
        refine ⟨Same.refl _, ev_is (ev_signIn (ev_tv rfl) fun _ _ => ev_tc) ?_⟩
        have q : z.cps.toList.getD i 0 = c := by
          rw [List.getD_eq_getElem?_getD, Array.getElem?_toList, hc]
          rfl
        rw [q]
      · have z2 := k H2 (e1.trans e2)
        rw [e0] at z2
        have q : (((List.range z.cps.size).map fun i => decide (z.cps.toList.getD i 0 ∈ signs.cps.toList)).all id) = (z.cps.toList.all fun c => decide (c ∈ signs.cps.toList)) := by
          rw [List.all_map]; rw [Bool.eq_iff_iff, List.all_eq_true, List.all_eq_true]
          constructor
          · intro h c hc
            obtain ⟨i, hi, e⟩ := List.getElem_of_mem hc
            have := h i (List.mem_range.mpr (by rw [← Array.length_toList]; exact hi))
            simp only [Function.comp, id] at this
            rw [List.getD_eq_getElem?_getD, List.getElem?_eq_getElem hi] at this
            rw [← e]
            exact this
          · intro h i hi
            have hi' : i < z.cps.toList.length := by
              rw [Array.length_toList]
              exact List.mem_range.mp hi
            have := h z.cps.toList[i] (List.getElem_mem hi')
            simp only [Function.comp, id]
            rw [List.getD_eq_getElem?_getD, List.getElem?_eq_getElem hi']
            exact this
        rw [q]
        exact z2
end
end Bc

namespace Bc
open PySem L2
/-- what is wrong first -/
def nameErr : List Str → List PyData → Option V
  | _, [] => none
  | seen, .str z :: r => if !okName z || decide (z ∈ seen) then some (.str z) else nameErr (seen ++ [z]) r
  | _, _ :: _ => some .non
def seenK (zs : List Str) : List (Key × V) := zs.map fun z => (.inr z, .bl true)
theorem seen_is {zs : List Str} {z : Str} : (valV (seenK zs) (.inr z)).isSome = decide (z ∈ zs) := by
  induction zs with
  | nil => rfl
  | cons y r ih =>
    show (valV ((Sum.inr y, V.bl true) :: seenK r) _).isSome = _
    rw [valV_cons]
    by_cases e : y = z
    · rw [e, if_pos rfl]
      simp
    · rw [if_neg (fun q => e (Sum.inr.inj q)), ih]
      have e2 : ¬ z = y := fun q => e q.symm
      simp [e2]
section
variable {P : Program} {w : World} {K : PySem.W.Frag} {mg : Str → Option Value} {base : Heap} {ad : Ad}
def spNames (C : Addr) : Sp := fun vs H Q E => ∃ (l : Addr) (xs : List V) (ds : List PyData), vs = [.ref l] ∧ H l = some (.lst xs) ∧ Dts H xs ds ∧ ds.length ≤ 1000 ∧ (∀ z, PyData.str z ∈ ds → z.length ≤ 1000 ∧ Bn.TellV (.str z)) ∧
  (nameErr [] ds = none → ∀ H', Same H H' → Q .non H') ∧ ∀ v, nameErr [] ds = some v → Raised C v H E
theorem scNames : FnScope ["names", "seen", "name"] ["names"] (defScope sNames) := ⟨rfl, rfl, rfl, by decide +kernel, rfl, by decide +kernel, by decide +kernel⟩
theorem s_raise {C : Addr} {te : TE} {D : Ends} {σ : L2.St} {H : Hp} {v : V} {E : XK} (h : Ev te σ H v) (tv : Bn.TellV v) (r : Raised C v H E) : Bn.tRaiseBad C (fun cls d _ H => E cls d H) (tCons te tNil) D σ H := h _ fun H' e => ⟨v, rfl, tv, fun d hd => r d H' e hd⟩
theorem Raised.go {C : Addr} {v : V} {H H' : Hp} {E : XK} (r : Raised C v H E) (e : Same H H') : Raised C v H' E := fun d H2 e2 hd => r d H2 (e.trans e2) hd
theorem ok_names (T : Tb P K mg ad) : FnOk P w K mg base (L2.CX P w) 3 ad.names ad.dNames ["names"] (spNames ad.cBad) := by
  have GN : FnOk P w K mg base CX0 2 ad.isName ad.dIsName ["text"] spIsName := ok_isName T.tx
  have bN := T.tx.fIsName.binds (ps := ["text"]) fun _ _ _ _ _ _ us hl => match us, hl with | [_], _ => rfl
  refine T.tx.fNames.okX scNames (fun vs H Q E h => ?_) (fun cdv A outer s H vs Q E hr h => ?_)
  · obtain ⟨l, xs, ds, rfl, _⟩ := h
    rfl
  · obtain ⟨l, xs, ds, rfl, hl, hds, few, hz, k, kr⟩ := h
    refine ⟨_, pss_cons (ps_set (i := 1) scNames.nd rfl (.inl rfl) pe_dnewK) (pss_one (ps_for (passes_of rfl) rfl (pi_list (pv 0)) (pg_name (i := 2) scNames.nd rfl (.inl rfl))
      (pss_cons (ps_if (pt_not (pt_val (pe_isi rfl T.tx.isinstance (pv 2) (pe_ty T.tx.str b_str)))) (pss_one (Bn.ps_raiseBad rfl (T.at rfl rfl rfl) hr (takes_of rfl rfl rfl rfl) (by exact (pa_cons pe_non pa_nil)))) pss_nil)
      (pss_cons (ps_if (PW.pt (pw_or (pt_not (pt_val (pe_call GN hr (by rfl) T.tx.gIsName T.tx.fIsName.kp bN .nil pass0 (pa_cons (pv 2) pa_nil)))) (pw_or1 (pt_cmp (pc_din (hu_of hr) (pv 2) (pv 1)))))) (pss_one (Bn.ps_raiseBad rfl (T.at rfl rfl rfl) hr (takes_of rfl rfl rfl rfl) (by exact (pa_cons (pv 2) pa_nil)))) pss_nil)
      (pss_one (ps_dput (hu_of hr) (pv 1) (pv 2) pe_bl rfl)))))), ?_⟩
    refine q_dnew fun d hd => ?_
    have xl := hds.length
    refine s_forL (K := K) (a := l) (xs := xs) (ev_tv rfl) (by rw [upd_ne (ne_of_none hl hd)]; exact hl) (fun i σ H' => ∃ x seen, σ = [some (.ref l), some (.ref d), x] ∧ Same H H' ∧ H' d = some (.dK (seenK seen)) ∧ seen.length ≤ i ∧ nameErr seen (ds.drop i) = nameErr [] ds)
      (fun H' e => ⟨none, [], rfl, (Same.mut (o := HO.dK []) (Same.refl H) hd).trans e, e _ _ upd_same, Nat.le_refl _, rfl⟩) (fun i σ' H' _ ⟨_, _, _, e, _⟩ => SqL.of (e _ _ hl)) (fun i x σ' H' hx p => ?_) (fun σ' H' p => ?_)
    · obtain ⟨x0, seen, rfl, e, hH, hsl, hne⟩ := p
      obtain ⟨dd, hdd, hdt⟩ := hds.getV hx
      have hi : i < ds.length := (List.getElem?_eq_some_iff.mp hdd).1
      have hdr : ds.drop i = dd :: ds.drop (i + 1) := by
        rw [List.drop_eq_getElem_cons hi, (List.getElem?_eq_some_iff.mp hdd).2]
      rw [hdr] at hne
      have hdt' := hdt.go e
      by_cases hS : ∃ z, dd = .str z
      · obtain ⟨z, rfl⟩ := hS
        have hzm := hz z (List.mem_of_getElem? hdd)
        cases hdt' with
        | str z =>
        refine q_no (EvB.not (EvB.of (ev_isStr (ev_tv rfl)))) fun H1 e1 => ?_
        by_cases hb : (!okName z || decide (z ∈ seen)) = true
        · skip
          have he : nameErr seen (.str z :: ds.drop (i + 1)) = some (.str z) := by
            show (if (!okName z || decide (z ∈ seen)) = true then some (V.str z) else _) = _
            rw [if_pos hb]
          refine q_yes (evb_is (EvB.or (EvB.not (EvB.of (b := okName z) (ev_call (ea_cons (ev_tv rfl) fun _ _ => ea_nil) fun H4 e4 Q4 q4 => ⟨z, rfl, hzm.1, q4⟩))) fun _ H2 e2 => EvB.of (ev_inD (k := .inr z) (ev_tv rfl) (fun _ _ => ev_tv rfl) (e2 _ _ (e1 _ _ hH)))) (by rw [seen_is]; exact hb)) fun H2 e2 => s_raise (ev_tv rfl) hzm.2 ((kr (.str z) (by rw [← hne, he])).go (e.trans (e1.trans e2)))
        · have hb' : (!okName z || decide (z ∈ seen)) = false := by simpa using hb
          have he : nameErr seen (.str z :: ds.drop (i + 1)) = nameErr (seen ++ [z]) (ds.drop (i + 1)) := by
            show (if (!okName z || decide (z ∈ seen)) = true then some (V.str z) else _) = _
            rw [if_neg hb]
          have hns : (valV (seenK seen) (.inr z)) = none := by
            have q : (valV (seenK seen) (.inr z)).isSome = decide (z ∈ seen) := seen_is
            have q2 : decide (z ∈ seen) = false := (Bool.or_eq_false_iff.mp hb').2
            rw [q2] at q
            cases z0 : valV (seenK seen) (.inr z) with
            | none => rfl
            | some u =>
              rw [z0] at q
              cases q
          refine q_no (evb_is (EvB.or (EvB.not (EvB.of (b := okName z) (ev_call (ea_cons (ev_tv rfl) fun _ _ => ea_nil) fun H4 e4 Q4 q4 => ⟨z, rfl, hzm.1, q4⟩))) fun _ H2 e2 => EvB.of (ev_inD (k := .inr z) (ev_tv rfl) (fun _ _ => ev_tv rfl) (e2 _ _ (e1 _ _ hH)))) (by rw [seen_is]; exact hb')) fun H2 e2 => ?_
          refine s_dput (k := .inr z) (v := .bl true) ev_tc (fun _ _ => ev_tv rfl) (fun _ _ => ev_tv rfl) (e2 _ _ (e1 _ _ hH)) (by show (List.map _ _).length < _; rw [List.length_map]; omega) fun H3 e3 => ?_
          refine ⟨_, seen ++ [z], rfl, Same.mut (e.trans (e1.trans (e2.trans e3))) hd, ?_, by rw [List.length_append]; show seen.length + 1 ≤ i + 1; omega, by rw [← he, hne]⟩
          rw [upd_same, putK_new _ hns]
          unfold seenK
          rw [List.map_append]
          rfl
      · have hb : isStrB dd = false := by
          cases dd with
          | str z => exact absurd ⟨z, rfl⟩ hS
          | _ => rfl
        have he : nameErr seen (dd :: ds.drop (i + 1)) = some .non := by
          cases dd with
          | str z => exact absurd ⟨z, rfl⟩ hS
          | _ => rfl
        refine q_yes (EvB.not (EvB.of (ev_is (ev_strD (ev_tv rfl) hdt') (by rw [hb])))) fun H2 e2 => s_raise ev_tc True.intro ((kr .non (by rw [← hne, he])).go (e.trans e2))
    · obtain ⟨x0, seen, rfl, e, hH, hsl, hne⟩ := p
      rw [xl, List.drop_length] at hne
      exact k hne.symm H' e
end
end Bc

namespace Bc
open PySem L2
section
variable {P : Program} {w : World} {K : PySem.W.Frag} {mg : Str → Option Value} {base : Heap} {ad : Ad}
/-! ### check_kinds -/
/-- what inlets may be: a dict with so many pairs (some), or a list (none) -/
def InK (H : Hp) (v : V) (n : Option Nat) : Prop := (∃ b is, v = .ref b ∧ H b = some (.dK is) ∧ n = some is.length) ∨ (∃ b ys, v = .ref b ∧ H b = some (.lst ys) ∧ n = none)
/-- what outlets may be: a list or tuple (true), or a text -/
def OutK (H : Hp) (v : V) (q : Bool) : Prop := (∃ c os, v = .ref c ∧ (H c = some (.lst os) ∨ H c = some (.tup os)) ∧ q = true) ∨ (∃ z, v = .str z ∧ q = false)
theorem InK.go {H H' : Hp} {v : V} {n : Option Nat} (h : InK H v n) (e : Same H H') : InK H' v n := by
  rcases h with ⟨b, is, h1, h2, h3⟩ | ⟨b, ys, h1, h2, h3⟩
  · exact .inl ⟨b, is, h1, e _ _ h2, h3⟩
  · exact .inr ⟨b, ys, h1, e _ _ h2, h3⟩
theorem OutK.go {H H' : Hp} {v : V} {n : Bool} (h : OutK H v n) (e : Same H H') : OutK H' v n := by
  rcases h with ⟨b, is, h1, h2, h3⟩ | ⟨z, h1, h3⟩
  · exact .inl ⟨b, is, h1, h2.imp (fun q => e _ _ q) fun q => e _ _ q, h3⟩
  · exact .inr ⟨z, h1, h3⟩
def kindsOk (k : Nat) (n : Option Nat) (q : Bool) : Bool := (decide (1 ≤ k) && decide (k ≤ 12)) && (match n with | some m => q && decide (m ≠ 0) | none => false)
def spKinds (C : Addr) : Sp := fun vs H Q E => ∃ (a : Addr) (vi vo : V) (ks : List (Key × V)) (n : Option Nat) (q : Bool), vs = [.ref a, vi, vo] ∧ H a = some (.dK ks) ∧ InK H vi n ∧ OutK H vo q ∧
  (kindsOk ks.length n q = true → ∀ H', Same H H' → Q .non H') ∧ (kindsOk ks.length n q = false → Raised C .non H E)
theorem scKinds : FnScope ["knots", "inlets", "outlets"] ["knots", "inlets", "outlets"] (defScope sKinds) := ⟨rfl, rfl, rfl, by decide +kernel, rfl, by decide +kernel, by decide +kernel⟩
theorem ok_kinds (T : Tb P K mg ad) : FnOk P w K mg base (L2.CX P w) 2 ad.kinds ad.dKinds ["knots", "inlets", "outlets"] (spKinds ad.cBad) := by
  refine T.tx.fKinds.okX scKinds (fun vs H Q E h => ?_) (fun cdv A outer s H vs Q E hr h => ?_)
  · obtain ⟨a, vi, vo, ks, n, q, rfl, _⟩ := h
    rfl
  · obtain ⟨a, vi, vo, ks, n, q, rfl, ha, hi, ho, k, kr⟩ := h
    obtain ⟨t1, gM⟩ := T.tx.mKnots
    refine ⟨_, pss_cons (ps_if (PW.pt (pw_or (pt_not (pt_val (pe_isi rfl T.tx.isinstance (pv 0) (pe_ty T.tx.dict b_dict)))) (pw_or1 (pt_not (pt_chain op_le op_le pe_int (pe_callB call_lenD (by rfl) T.tx.len PySem.boot_len (pa_cons (pv 0) pa_nil)) (pe_glob (v := .int 12) (by rfl) gM ⟨_, rfl⟩)))))) (pss_one (Bn.ps_raiseBad rfl (T.at rfl rfl rfl) hr (takes_of rfl rfl rfl rfl) (by exact (pa_cons pe_non pa_nil)))) pss_nil)
      (pss_one (ps_if (PW.pt (pw_or (pt_not (pt_val (pe_isi rfl T.tx.isinstance (pv 1) (pe_ty T.tx.dict b_dict)))) (pw_or (pt_not (pt_val (pe_callB call_isiT (by rfl) T.tx.isinstance b_isinstance (pa_cons (pv 2) (pa_cons (pe_tup (pa_cons (pe_ty T.tx.list b_list) (pa_cons (pe_ty T.tx.tuple b_tuple) pa_nil))) pa_nil)))))
        (pw_or1 (pt_cmpR op_eq (pe_callB call_lenD (by rfl) T.tx.len PySem.boot_len (pa_cons (pv 1) pa_nil)) pe_int (nomark _)))))) (pss_one (Bn.ps_raiseBad rfl (T.at rfl rfl rfl) hr (takes_of rfl rfl rfl rfl) (by exact (pa_cons pe_non pa_nil)))) pss_nil)), ?_⟩
    by_cases g1 : (decide (1 ≤ ks.length) && decide (ks.length ≤ 12)) = true
    · refine q_no (evb_is (EvB.or (EvB.not (EvB.of (ev_isDict (ev_tv rfl) ha))) fun _ H1 e1 => EvB.not (EvB.of' (ev_chain (g := fun i j => decide (i ≤ j)) (g' := fun i j => decide (i ≤ j)) ev_tc (fun _ e2 => ev_lenD (ev_tv rfl) (e2 _ _ (e1 _ _ ha))) fun _ _ => ev_tc))) ?_) fun H1 e1 => ?_
      · show (!true || !(decide ((1 : Int) ≤ (ks.length : Nat)) && decide (((ks.length : Nat) : Int) ≤ 12))) = false
        simp at g1 ⊢
        omega
      · rcases hi with ⟨b, is, rfl, hb, rfl⟩ | ⟨b, ys, rfl, hb, rfl⟩
        · have tst : ∀ (H2 : Hp), Same H1 H2 → EvB (tNot (tB (tCB (rIsiT K) (tCons (tVar 2) (tCons (tTup (tCons (tC (.ty "list")) (tCons (tC (.ty "tuple")) tNil))) tNil))))) [some (.ref a), some (.ref b), some vo] H2 (!q) := fun H2 e2 => EvB.not (EvB.of (b := q) fun Q2 q2 => by
            refine ⟨_, rfl, sz (by show 2 ≤ _; decide), fun p hp => ?_⟩
            have e12 := (e1.trans e2).trans (same_upd (o := HO.tup [V.ty "list", V.ty "tuple"]) hp)
            have hty : ∃ t, TyX K (upd H2 p (.tup [V.ty "list", V.ty "tuple"])) vo t ∧ PySem.W.kitAny K t [.type "list", .type "tuple"] = some q := by
              rcases ho.go e12 with ⟨c, os, rfl, hc, rfl⟩ | ⟨z, rfl, rfl⟩
              · rcases hc with hc | hc
                · exact ⟨_, .base (.lst hc), kitAny_cons (b := true) (kit_ty (by decide +kernel)) (fun z => nomatch z) fun _ => rfl⟩
                · exact ⟨_, .base (.tup hc), kitAny_cons (b := false) (kit_ty (by decide +kernel)) (fun _ => kitAny_cons (b := true) (kit_ty (by decide +kernel)) (fun z => nomatch z) fun _ => rfl) fun z => nomatch z⟩
              · exact ⟨_, .base (.str z), kitAny_cons (b := false) (kit_ty (by decide +kernel)) (fun _ => kitAny_cons (b := false) (kit_ty (by decide +kernel)) (fun _ => kitAny_nil) fun z => nomatch z) fun z => nomatch z⟩
            obtain ⟨t, h1, h2⟩ := hty
            exact ⟨vo, p, [.ty "list", .ty "tuple"], t, [.type "list", .type "tuple"], q, rfl, upd_same, .cons (.ty "list") (.cons (.ty "tuple") .nil), h1, h2, q2 _ (same_upd hp)⟩)
          by_cases g2 : (q && decide (is.length ≠ 0)) = true
          · refine s_no (evb_is (EvB.or (EvB.not (EvB.of (ev_isDict (ev_tv rfl) (e1 _ _ hb)))) fun _ H2 e2 => EvB.or (tst H2 e2) fun _ H3 e3 => EvB.of' (ev_eq (ev_lenD (ev_tv rfl) (e3 _ _ (e2 _ _ (e1 _ _ hb)))) (fun _ _ => ev_tc) rfl)) ?_) fun H4 e4 => k (by unfold kindsOk; rw [g1]; exact g2) H4 (e1.trans e4)
            have h3 := Bool.and_eq_true_iff.mp g2
            rw [h3.1]
            have h4 : ¬ is.length = 0 := of_decide_eq_true h3.2
            have h5 : decide (V.int (is.length : Nat) = V.int 0) = false := decide_eq_false fun z => h4 (by injection z with z; omega)
            rw [h5]
            rfl
          · refine if_yes (evb_is (EvB.or (EvB.not (EvB.of (ev_isDict (ev_tv rfl) (e1 _ _ hb)))) fun _ H2 e2 => EvB.or (tst H2 e2) fun _ H3 e3 => EvB.of' (ev_eq (ev_lenD (ev_tv rfl) (e3 _ _ (e2 _ _ (e1 _ _ hb)))) (fun _ _ => ev_tc) rfl)) ?_) fun H4 e4 => s_raise ev_tc True.intro ((kr (by
              have g2' : (q && decide (is.length ≠ 0)) = false := by simpa using g2
              unfold kindsOk
              rw [g1]
              exact g2')).go (e1.trans e4))
            cases q with
            | false => rfl
            | true =>
              have h4 : is.length = 0 := by simpa using g2
              rw [h4]
              rfl
        · refine if_yes (evb_is (EvB.or (b := false) (EvB.not (EvB.of (ev_isi (b := false) (ev_tv rfl) (fun H' e => .base (.lst (e _ _ (e1 _ _ hb)))) (kit_ty (by decide +kernel))))) fun z => absurd z (by decide)) rfl) fun H4 e4 => s_raise ev_tc True.intro ((kr (by unfold kindsOk; exact Bool.and_false _)).go (e1.trans e4))
    · have g1' : (decide (1 ≤ ks.length) && decide (ks.length ≤ 12)) = false := by simpa using g1
      refine q_yes (evb_is (EvB.or (EvB.not (EvB.of (ev_isDict (ev_tv rfl) ha))) fun _ H1 e1 => EvB.not (EvB.of' (ev_chain (g := fun i j => decide (i ≤ j)) (g' := fun i j => decide (i ≤ j)) ev_tc (fun _ e2 => ev_lenD (ev_tv rfl) (e2 _ _ (e1 _ _ ha))) fun _ _ => ev_tc))) ?_) fun H1 e1 => s_raise ev_tc True.intro ((kr (by unfold kindsOk; rw [g1']; rfl)).go e1)
      show (!true || !(decide ((1 : Int) ≤ (ks.length : Nat)) && decide (((ks.length : Nat) : Int) ≤ 12))) = true
      simp at g1 ⊢
      omega
end
end Bc

/-! *d in a display, d a dict -/
namespace Bc
open PySem PySem.W PyProof.Rows
section
variable {s : Shared} {prog : Program} {w : World} {A : Around} {E : Value → Shared → Prop} {T : String} {r d : Addr} {n : Nat} {P : Nat → Value → Prop} {OK : Heap → Prop}
/-- the items of what is walked, collected -/
theorem collect_src (K : KdlSrc prog w T r d n P OK) {Q : List Value → Shared → Prop} (hh : A.handled = none) (hok : OK s.heap)
    (hQ : ∀ h' tk acc, (∀ b o, s.heap.get? b = some o → h'.get? b = some o) → ItemsOf P acc n → Q acc.toList { s with heap := h', toks := tk }) (hn : n ≤ sizeLine) : wpAny (model prog w) A (collect (.ref r)) Q E s := by
  unfold collect
  refine wpAny_bind (wpAny_runValue (codeAny_builtin F.entry_proto_collect ?_)); rw [Around.under_plainId F.plain_proto_collect _]
  show wpAny _ A.in1 (newList [] >>= fun l => again (.builtin "list.__iadd__" ⟨[l, .ref r], []⟩)) _ _ s; refine wpAny_bind (wpAny_newObj_type ?_)
  refine wpAny_pure ⟨plainId_quiet F.plain_list_iadd _, codeAny_builtin F.entry_list_iadd ?_⟩; rw [Around.under_plainId F.plain_list_iadd _]
  have hSz : (s.heap.push { cls := .type "list", data := .seq ([] : List Value).toArray }).get? s.heap.objs.size = some { cls := .type "list", data := .seq #[] 0 } := Heap.get?_push_size _ rfl
  have lt := K.there _ hok
  have fin' : ∀ s' : Shared, (∃ h' tk acc c', s' = { s with heap := h', toks := tk } ∧ (∀ b o, s.heap.get? b = some o → h'.get? b = some o) ∧ h'.get? s.heap.objs.size = some { cls := .type "list", dict := none, data := .seq acc c', slots := #[] } ∧ ItemsOf P acc n) →
      wpAny (model prog w) A (match Value.ref s.heap.objs.size with
      | Value.ref a => do
        match (← load a).data with
          | Data.seq ys _ => pure ys.toList | _ => unsupported "internal:collect"
      | _ => unsupported "internal:collect") Q E s' := by
    rintro s' ⟨h', tk, acc, c', rfl, hk, hS', hacc⟩
    show wpAny _ A (load s.heap.objs.size >>= _) _ _ _; refine wpAny_bind (wpAny_load hS' ?_)
    exact wpAny_pure (hQ h' tk acc hk hacc)
  refine wpAny_mono (kdl_extend (A := A) (R := fun r s' => r = .ok (.ret (.ref s.heap.objs.size)) ∧ ∃ h' tk acc c', s' = { s with heap := h', toks := tk } ∧ (∀ b o, s.heap.get? b = some o → h'.get? b = some o) ∧ h'.get? s.heap.objs.size = some { cls := .type "list", dict := none, data := .seq acc c', slots := #[] } ∧ ItemsOf P acc n)
    (s := { s with heap := s.heap.push { cls := .type "list", data := .seq ([] : List Value).toArray } }) K hh (K.keep _ _ hok fun b _ o e => Heap.get?_push_of_some _ e) s.heap.objs.size (Nat.ne_of_gt lt.1) (Nat.ne_of_gt lt.2) (.ref s.heap.objs.size) 0 hSz
    (fun h' tk acc' c' hk hS' hacc => ⟨rfl, h', tk, acc', c', rfl, fun b o e => hk b o (Nat.ne_of_lt (Heap.lt_size e)) (Heap.get?_push_of_some _ e), hS', hacc⟩) hn) (fun fin s' h => ?_) (fun e s' h => ?_)
  · cases fin with
    | done f =>
      obtain ⟨e, h⟩ := h
      cases e
      exact fin' s' h
    | again c' => exact ⟨h.1, codeAny_mono h.2 fun r s'' hr => by obtain ⟨rfl, hr⟩ := hr; exact fin' s'' hr⟩
  · exact absurd h.1 (by simp)
end
open L2
section
variable {X : Cx} {pz : List (Addr × Obj)} {σ : L2.St} {H : Hp} {s : Shared}
theorem star_dict {a : Addr} {kvs : List (Key × V)} {E : Value → Shared → Prop} {Q : List Value → Shared → Prop} (hc : X.calm = true) (I : Inv X pz σ H s) (h : Rd H a (.dK kvs))
    (hQ : ∀ uz s', Inv X pz σ H s' → Vals (kvs.map fun kv => kV kv.1) uz → Q uz s') : StarOf (model X.prog X.w) X.A E (.ref a) Q s := by
  obtain ⟨z, lo, vs, rel, dd⟩ := dk_rd I.hok h
  obtain ⟨ep, hat⟩ := dd.dictAt
  have ekz : (kvs.map fun kv => kV kv.1) = vs.map fun p => kV p.1 := by
    have e := congrArg (List.map kV) rel.keys; rw [List.map_map, List.map_map] at e
    exact e
  have hTz : s.TypeIs (.ref a) "dict" := dd.typeIs
  have zz : wpAny (model X.prog X.w) X.A (collect (.ref a)) Q E s := by
    refine collect_src (kdl_dict (knd := mixKind X.prog X.w) (kvs := vs) (ep := ep) lo) (I.ok.hd hc) hat (fun h' tk acc hk hacc => ?_) (by rw [← rel.length]; exact z)
    refine hQ acc.toList _ (I.kept (t' := tk) hk) ?_
    rw [ekz]
    exact keys_at (by rw [Array.length_toList]; exact hacc.1) fun j v e => hacc.2 j v (by rw [← Array.getElem?_toList]; exact e)
  unfold StarOf notIterableAtAll; exact wpAny_bind (wpAny_specialOf hTz PySem.F.slot_dict_iter.lookup (wpAny_pure ⟨rfl, zz⟩))
end
def tStarD (te : TE) (t : TA) : TA := fun σ H Q => te σ H fun x H1 => ∃ a kvs, x = V.ref a ∧ Rd H1 a (.dK kvs) ∧ t σ H1 fun ys H2 => Q ((kvs.map fun kv => kV kv.1) ++ ys) H2
section
variable {X : Cx} {e : Expr} {es : List Expr} {te : TE} {t : TA} {p : Pos}
theorem pa_starD (hc : X.calm = true) (he : PE X e te) (hr : PA X es t) (hs : starEach (.Starred e p :: es) X.env = (true, eval e X.env) :: starEach es X.env := by rfl) : PA X (.Starred e p :: es) (tStarD te t) := by
  refine ⟨fun pos pz s σ H Q I h => ?_⟩
  refine PySem.W.items_star (thn (he.run pz s σ H _ I h) fun v s1 ⟨y, H1, J1, ryz, a, kvs, ey, hx, q⟩ => ?_) hs
  subst ey
  obtain rfl : v = Value.ref a := ryz
  refine star_dict hc J1 hx fun uz s2 J2 rvz => ?_
  exact thn (hr.run pos pz s2 σ H1 _ J2 q) fun ws s3 ⟨vs, H3, J3, r3, q3⟩ => ⟨_, H3, J3, rvz.append r3, q3⟩
end
end Bc

/-! Dict comprehensions over any walk, the pairs told -/
namespace Bc
open PySem L2
theorem valV_range {f : Nat → Key} {g : Nat → V} {n : Nat} {k : Key} (h : ∀ i, i < n → f i ≠ k) : valV ((List.range n).map fun i => (f i, g i)) k = none := by
  unfold valV
  rw [List.find?_eq_none.mpr]
  · rfl
  · intro p hp
    obtain ⟨i, hi, rfl⟩ := List.mem_map.mp hp
    simpa using h i (List.mem_range.mp hi)
theorem dc_it {J : It} {n : Nat} {G : Hp → Prop} {Y : Nat → Hp → V → Hp → Prop} (w : Walk J n G Y) {g : TG} {tt : TT} {tk tv : TE} {vs : List Nat} {σ : L2.St} {H1 : Hp} {D : Addr} {Qd : Hp → Prop} (Pv : Nat → Hp → Prop) (h0 : Pv 0 (upd H1 D (.dK []))) (hG : ∀ i H, i ≤ n → Pv i H → G H) (hs : ∀ i x H H', i < n → Pv i H → Y i H x H' → g x (wipe σ vs) H' fun σ2 H2 => wipe σ2 vs = wipe σ vs ∧ tt σ2 H2 fun b H3 =>
      if b = true then tk σ2 H3 fun y H4 => tv σ2 H4 fun z H5 => ∃ kvs k, y = kV k ∧ H5 D = some (.dK kvs) ∧ kvs.length < sizeLine ∧ Pv (i + 1) (upd H5 D (.dK (putK kvs k z))) else Pv (i + 1) H3) (hd : ∀ H, Pv n H → Qd H) : ∃ W : Nat → Nat → Hp → Prop, (∃ m, W 0 m (upd H1 D (.dK []))) ∧ ∀ i m H, W i m H → (J.stop i H ∧ Qd H) ∨ (J.go i H ∧ ∃ Nx : Hp → Prop, (∀ H', Nx H' → ∃ m', m' < m ∧ W (i + 1) m' H') ∧ ∀ x H', J.yld i H x H' → g x (wipe σ vs) H' fun σ2 H2 => wipe σ2 vs = wipe σ vs ∧ tt σ2 H2 fun b H3 => if b = true then tk σ2 H3 fun y H4 => tv σ2 H4 fun z H5 => ∃ kvs k, y = kV k ∧ H5 D = some (.dK kvs) ∧ kvs.length < sizeLine ∧ Nx (upd H5 D (.dK (putK kvs k z))) else Nx H3) := by
  refine ⟨fun k m H => m = n - k ∧ k ≤ n ∧ Pv k H, ⟨n, by simp, Nat.zero_le _, h0⟩, ?_⟩
  rintro i m H ⟨rfl, hi, p⟩
  have q := hG i H hi p
  by_cases hltz : i < n
  · exact .inr ⟨w.goes i H hltz q, Pv (i + 1), fun H' p' => ⟨n - (i + 1), by omega, rfl, hltz, p'⟩, fun x H' y => hs i x H H' hltz p (w.yields i H x H' hltz q y)⟩
  · have e : i = n := by omega
    subst e; exact .inl ⟨w.stops H q, hd H p⟩
theorem dc_vals {J : It} {n : Nat} {G : Hp → Prop} {Y : Nat → Hp → V → Hp → Prop} (w : Walk J n G Y) {tk tv : TE} {j : Nat} {vs : List Nat} {σ : L2.St} {H1 : Hp} {D : Addr} {Qd : Hp → Prop} (f : Nat → Key) (g : Nat → V)
    (hD : H1 D = none) (hn : n < 100000) (hG : ∀ H, Same H1 H → G H) (hw : ∀ x, wipe ((wipe σ vs).set j (some x)) vs = wipe σ vs) (inj : ∀ i i', i < n → i' < n → f i = f i' → i = i')
    (hs : ∀ i x H H', i < n → Same H1 H → Y i H x H' → Same H H' ∧ Ev tk ((wipe σ vs).set j (some x)) H' (kV (f i)) ∧ ∀ H2, Same H' H2 → Ev tv ((wipe σ vs).set j (some x)) H2 (g i))
    (hd : ∀ H, Same H1 H → H D = some (.dK ((List.range n).map fun i => (f i, g i))) → Qd H) : ∃ W : Nat → Nat → Hp → Prop, (∃ m, W 0 m (upd H1 D (.dK []))) ∧ ∀ i m H, W i m H →
      (J.stop i H ∧ Qd H) ∨ (J.go i H ∧ ∃ Nx : Hp → Prop, (∀ H', Nx H' → ∃ m', m' < m ∧ W (i + 1) m' H') ∧ ∀ x H', J.yld i H x H' → gName j x (wipe σ vs) H' fun σ2 H2 => wipe σ2 vs = wipe σ vs ∧ tYes σ2 H2 fun b H3 => if b = true then tk σ2 H3 fun y H4 => tv σ2 H4 fun z H5 => ∃ kvs k, y = kV k ∧ H5 D = some (.dK kvs) ∧ kvs.length < sizeLine ∧ Nx (upd H5 D (.dK (putK kvs k z))) else Nx H3) := by
  refine dc_it w (fun i H => Same H1 H ∧ H D = some (.dK ((List.range i).map fun i => (f i, g i)))) ⟨same_upd hD, upd_same⟩ (fun i H _ p => hG H p.1) (fun i x H H' hi p y => ?_) (fun H p => hd H p.1 p.2)
  obtain ⟨s1, ha⟩ := p
  obtain ⟨s2, k1, k2⟩ := hs i x H H' hi s1 y
  refine ⟨hw x, ?_⟩
  show tk ((wipe σ vs).set j (some x)) H' _
  refine k1 _ fun H4 s4 => k2 H4 s4 _ fun H5 s5 => ⟨_, f i, rfl, s5 _ _ (s4 _ _ (s2 _ _ ha)), szl (by rw [List.length_map, List.length_range]; omega), Same.mut (s1.trans (s2.trans (s4.trans s5))) hD, ?_⟩
  rw [upd_same, putK_new _ (valV_range fun i' hi' e => absurd (inj _ _ (by omega) hi e) (by omega)), List.range_succ, List.map_append]
  rfl
/-- the same over what is a list of keys -/
theorem range_map {α β : Type} (l : List α) (h : α → β) (d : β) : (List.range l.length).map (fun i => (l[i]?.map h).getD d) = l.map h := by
  refine List.ext_getElem? fun i => ?_
  rw [List.getElem?_map]
  by_cases hi : i < l.length
  · rw [List.getElem?_range hi]
    show some ((l[i]?.map h).getD d) = _
    rw [List.getElem?_map, List.getElem?_eq_getElem hi]
    rfl
  · rw [List.getElem?_eq_none_iff.mpr (by rw [List.length_range]; omega), List.getElem?_map, List.getElem?_eq_none_iff.mpr (by omega)]
    rfl
end Bc

namespace Bc
open L2 PySem PySem.W PyProof.Rows
section
variable {X : Cx}
/-- name = {..: .. for ..} on one line, the name a local -/
theorem ps_setDc {i : Nat} {y : Str} {py : Pos} {kx vx tg iter : Expr} {ifs : List Expr} {scope : Scope} {own : List (Str × Nat)} {pos spos : Pos} {wi : TI} {g : TG} {tt : TT} {tk tv : TE} (hc : X.calm = true) (hN : X.N.Nodup) (hy : X.N[i]? = some y) (hyl : X.env.scope.names.lookup y = some .local)
    (hsw : swapsWith (.DictComp kx vx [⟨tg, iter, ifs, 0⟩] scope pos) (some (.Name y py)) spos.line X.env = pure true) (hi : PI X tg iter wi) (ok : BlkOk X.N X.env.scope scope own) (hg : ∀ (s : Shared) (H : Hp) (C : Addr) (cl : List (Str × Addr)) (fp : List Addr), PG (X.blk s H scope (compEnvC scope cl C X.env) fp) tg g) (ht : ∀ (s : Shared) (H : Hp) (C : Addr) (cl : List (Str × Addr)) (fp : List Addr), PTs (X.blk s H scope (compEnvC scope cl C X.env) fp) ifs tt) (hk : ∀ (s : Shared) (H : Hp) (C : Addr) (cl : List (Str × Addr)) (fp : List Addr), PE (X.blk s H scope (compEnvC scope cl C X.env) fp) kx tk) (he : ∀ (s : Shared) (H : Hp) (C : Addr) (cl : List (Str × Addr)) (fp : List Addr), PE (X.blk s H scope (compEnvC scope cl C X.env) fp) vx tv) (hs : ∀ x, foldedSetIterable iter X.env x = pure x := by intro _; rfl) :
    PS X (.Assign [.Name y py] (.DictComp kx vx [⟨tg, iter, ifs, 0⟩] scope pos) spos) (tAsg (tDc wi g tt tk tv (own.map (·.2))) (gName i)) := by
  refine ⟨fun pz s σ H D I h => ?_⟩
  rw [exec_Assign_Name_used _ _ _ _ hsw]; refine wpAny_bind (wpAny_standAt (wpAny_bind ?_))
  show wpAny _ X.A (do let _ ← comprehension (.DictComp kx vx [⟨tg, iter, ifs, 0⟩] scope pos) scope X.env (firstIterPos [⟨tg, iter, ifs, 0⟩] pos) newDict false (eval iter X.env) (some (assign (.Name y py) X.env))) _ _ s
  have h : tDc wi g tt tk tv (own.map (·.2)) σ H (fun x H1 => gName i x σ H1 D.nx) := h
  refine wpAny_bind (thn (dc_core (Qf := fun _ s' => SP X pz D .next s') hc hN I hi ok hg ht hk he hs h fun L C s' m H' I' q hn f => ?_) fun _ s' hq => wpAny_pure (wpAny_pure hq))
  show wpAny _ _ (assign (.Name y py) X.env (.ref L)) _ _ _; refine wpAny_assign_Name (store_ok2 (v := V.ref L) I' hN hy (.inl hyl) rfl (fun s2 J2 ⟨a, sbz, ha⟩ => ?_) (.inr hyl))
  obtain ⟨zf0, zf1, f2, zf3, zf4, zf5⟩ := f
  have haC : C ≠ a := by
    rcases ha with z | z
    · rw [z]; exact zf1
    · exact fun e => zf4 y a z e.symm
  refine ⟨m, hn.sameBut sbz haC, fun h3 sby => ?_⟩
  exact ⟨_, H', J2.turned (t' := s2.toks) (fun b o hb e => (sby.2 b hb).trans e) zf0 zf1 zf3 zf4 zf5, q⟩
theorem swD_true {kx vx : Expr} {gs : List Comprehension} {scope : Scope} {pos py : Pos} {y : Str} {l : Nat} {env : Env} (hk : env.scope.kind = .function) (hy : env.scope.names.lookup y = some .local) (hl : (py.line == pos.line) = true)
    (ha : (scope.names.any fun (n, k) => n == y && (k == .local || k == .cell)) = false) : swapsWith (.DictComp kx vx gs scope pos) (some (.Name y py)) l env = pure true := by
  have ky : env.kindOf y = some .local := hy; have hb : env.blockKind = .function := by unfold Env.blockKind; rw [hk]; rfl
  unfold swapsWith; simp only [hb, ky, ha, Expr.pos, hl]
  rfl
end
end Bc

/-! The order of texts; what is sorted is one list -/
namespace Bc
open PySem PySem.Spec L2 PyProof.Rows
def leS (x y : Str) : Bool := !ltCps y.cps.toList x.cps.toList
theorem lt_irr : ∀ a : List Nat, ltCps a a = false
  | [] => rfl
  | a :: r => by simp [ltCps, lt_irr r]
theorem lt_trans : ∀ {a b c : List Nat}, ltCps a b = true → ltCps b c = true → ltCps a c = true
  | [], [], _, h, _ => by simp [ltCps] at h
  | [], _ :: _, [], _, h => by simp [ltCps] at h
  | [], _ :: _, _ :: _, _, _ => by rfl
  | _ :: _, [], _, h, _ => by simp [ltCps] at h
  | _ :: _, _ :: _, [], _, h => by simp [ltCps] at h
  | a :: r, b :: t, c :: u, h1, h2 => by
    simp only [ltCps, Bool.or_eq_true, decide_eq_true_eq, Bool.and_eq_true, beq_iff_eq] at *
    rcases h1 with h1 | ⟨h1, k1⟩ <;> rcases h2 with h2 | ⟨h2, k2⟩
    · exact .inl (by omega)
    · exact .inl (by omega)
    · exact .inl (by omega)
    · exact .inr ⟨by omega, lt_trans k1 k2⟩
theorem lt_tri : ∀ a b : List Nat, ltCps a b = false → ltCps b a = false → a = b
  | [], [], _, _ => rfl
  | [], _ :: _, h, _ => by simp [ltCps] at h
  | _ :: _, [], _, h => by simp [ltCps] at h
  | a :: r, b :: t, h1, h2 => by
    simp only [ltCps, Bool.or_eq_false_iff, decide_eq_false_iff_not, Bool.and_eq_false_iff, beq_eq_false_iff_ne] at *
    have e : a = b := by omega
    subst e
    rw [lt_tri r t (h1.2.resolve_left fun q => q rfl) (h2.2.resolve_left fun q => q rfl)]
theorem leS_refl (x : Str) : leS x x = true := by simp [leS, lt_irr]
theorem leS_trans {x y z : Str} (h1 : leS x y = true) (h2 : leS y z = true) : leS x z = true := by
  simp only [leS, Bool.not_eq_true'] at *
  cases h : ltCps z.cps.toList x.cps.toList with
  | false => rfl
  | true =>
    cases hy : ltCps y.cps.toList z.cps.toList with
    | true => rw [lt_trans hy h] at h1; cases h1
    | false =>
      have e := lt_tri _ _ hy h2
      rw [e] at h1
      rw [h] at h1
      cases h1
theorem leS_total (x y : Str) : (leS x y || leS y x) = true := by
  simp only [leS]
  cases h1 : ltCps y.cps.toList x.cps.toList with
  | false => rfl
  | true =>
    cases h2 : ltCps x.cps.toList y.cps.toList with
    | false => rfl
    | true =>
      have := lt_trans h1 h2
      rw [lt_irr] at this
      cases this
theorem leS_anti {x y : Str} (h1 : leS x y = true) (h2 : leS y x = true) : x = y := by
  simp only [leS, Bool.not_eq_true'] at *
  have e := lt_tri _ _ h2 h1
  obtain ⟨a⟩ := x
  obtain ⟨b⟩ := y
  congr 1
  exact Array.toList_inj.mp e
/-- sorted -/
def srt (l : List Str) : List Str := l.mergeSort leS
theorem srt_perm (l : List Str) : (srt l).Perm l := List.mergeSort_perm l leS
theorem srt_pw (l : List Str) : (srt l).Pairwise (fun x y => leS x y = true) := List.pairwise_mergeSort (le := leS) (fun _ _ _ h1 h2 => leS_trans h1 h2) (fun a b => leS_total a b) l
theorem rising_pw : ∀ (l : List Str) (p : Str), risingS p l = true → (p :: l).Pairwise (fun x y => leS x y = true)
  | [], p, _ => by simp
  | x :: r, p, h => by
    simp only [risingS, Bool.and_eq_true] at h
    obtain ⟨h1, h2⟩ := h
    have ih := rising_pw r x h2
    have hpx : leS p x = true := h1
    refine List.pairwise_cons.mpr ⟨fun y hy => ?_, ih⟩; rcases List.mem_cons.mp hy with rfl | hy
    · exact hpx
    · exact leS_trans hpx ((List.pairwise_cons.mp ih).1 y hy)
theorem sortedS_pw {l : List Str} (h : sortedS l = true) : l.Pairwise (fun x y => leS x y = true) := by
  cases l with
  | nil => exact List.Pairwise.nil
  | cons x r => exact rising_pw r x h
theorem sorted_one {α : Type} {le : α → α → Bool} (anti : ∀ x y, le x y = true → le y x = true → x = y) : ∀ {l l' : List α}, l.Perm l' → l.Pairwise (fun x y => le x y = true) → l'.Pairwise (fun x y => le x y = true) → l = l' := fun hp h1 h2 =>
  hp.eq_of_pairwise (fun a b _ _ x y => anti a b x y) h1 h2
theorem srt_is {l ys : List Str} (hp : ys.Perm l) (hs : sortedS ys = true) : ys = srt l :=
  sorted_one (fun _ _ => leS_anti) (hp.trans (srt_perm l).symm) (sortedS_pw hs) (srt_pw l)
end Bc

namespace Bc
open PySem L2 PyProof.Rows StX
/-- te gives a new list of these; a new tuple; a new dict -/
def EvL (te : TE) (σ : L2.St) (H : Hp) (xs : List V) : Prop := ∀ Q : VK, (∀ p H', H p = none → Same H H' → H' p = some (.lst xs) → Q (.ref p) H') → te σ H Q
def EvU (te : TE) (σ : L2.St) (H : Hp) (xs : List V) : Prop := ∀ Q : VK, (∀ p H', H p = none → Same H H' → H' p = some (.tup xs) → Q (.ref p) H') → te σ H Q
def EvK (te : TE) (σ : L2.St) (H : Hp) (kvs : List (Key × V)) : Prop := ∀ Q : VK, (∀ p H', H p = none → Same H H' → H' p = some (.dK kvs) → Q (.ref p) H') → te σ H Q
/-- a for over a new list -/
theorem s_forN {K : PySem.W.Frag} {tl : TE} {j : Nat} {tb : TS} {D : Ends} {σ : L2.St} {H : Hp} {xs : List V} (h : EvL tl σ H xs)
    (k : ∀ p H1, Same H H1 → H1 p = some (.lst xs) → ∃ Pv : Nat → L2.St → Hp → Prop, Pv 0 σ H1 ∧ (∀ i σ' H', Pv i σ' H' → Same H1 H') ∧
      (∀ i x σ' H', xs[i]? = some x → Pv i σ' H' → tb { D with nx := Pv (i + 1), ct := Pv (i + 1), bk := D.nx } (σ'.set j (some x)) H') ∧ ∀ σ' H', Pv xs.length σ' H' → D.nx σ' H') : tFor (iList K tl) (gName j) tb D σ H := by
  refine h _ fun p H1 hp e1 hx => ⟨p, rfl, ⟨xs, SqL.of hx⟩, ?_⟩
  obtain ⟨Pv, h0, hG, hs, hd⟩ := k p H1 e1 hx
  exact for_it (walk_list (K := K) (a := p) (xs := xs)) Pv h0 (fun i σ' H' _ q => SqL.of (hG i σ' H' q _ _ hx)) (fun i x σ' H2 H3 hi q y => by
    obtain ⟨rfl, hy⟩ := y
    exact hs i x σ' _ hy q) hd
theorem q_forN {K : PySem.W.Frag} {tl : TE} {j : Nat} {tb u : TS} {D : Ends} {σ : L2.St} {H : Hp} {xs : List V} (h : EvL tl σ H xs)
    (k : ∀ p H1, Same H H1 → H1 p = some (.lst xs) → ∃ Pv : Nat → L2.St → Hp → Prop, Pv 0 σ H1 ∧ (∀ i σ' H', Pv i σ' H' → Same H1 H') ∧
      (∀ i x σ' H', xs[i]? = some x → Pv i σ' H' → tb { D with nx := Pv (i + 1), ct := Pv (i + 1), bk := u D } (σ'.set j (some x)) H') ∧ ∀ σ' H', Pv xs.length σ' H' → u D σ' H') : tSeq (tFor (iList K tl) (gName j) tb) u D σ H := s_forN (D := { D with nx := u D }) h k
theorem q_asgL {te : TE} {u : TS} {D : Ends} {σ : L2.St} {H : Hp} {i : Nat} {xs : List V} (h : EvL te σ H xs) (k : ∀ p H', H p = none → Same H H' → H' p = some (.lst xs) → u D (σ.set i (some (.ref p))) H') : tSeq (tAsg te (gName i)) u D σ H := h _ fun p H' hp e hx => k p H' hp e hx
theorem q_asgU {te : TE} {u : TS} {D : Ends} {σ : L2.St} {H : Hp} {i : Nat} {xs : List V} (h : EvU te σ H xs) (k : ∀ p H', H p = none → Same H H' → H' p = some (.tup xs) → u D (σ.set i (some (.ref p))) H') : tSeq (tAsg te (gName i)) u D σ H := h _ fun p H' hp e hx => k p H' hp e hx
theorem q_asgK {te : TE} {u : TS} {D : Ends} {σ : L2.St} {H : Hp} {i : Nat} {xs : List (Key × V)} (h : EvK te σ H xs) (k : ∀ p H', H p = none → Same H H' → H' p = some (.dK xs) → u D (σ.set i (some (.ref p))) H') : tSeq (tAsg te (gName i)) u D σ H := h _ fun p H' hp e hx => k p H' hp e hx
section
variable {K : PySem.W.Frag} {σ : L2.St} {H : Hp} {ta tb tl tk tv : TE}
abbrev rSortD : List V → Hp → VK → Prop := fun xs H Q => ∃ (a : Addr) (kvs : List (Key × V)) (ks : List Str), xs = [.ref a] ∧ Rd H a (.dK kvs) ∧ kvs.map (·.1) = ks.map Sum.inr ∧ ks.length < 64 ∧ ∀ (ys : List Str) (p : Addr), ys.Perm ks → sortedS ys = true → H p = none → Q (.ref p) (upd H p (.lst (ys.map V.str)))
theorem el_sortedD {a : Addr} {kvs : List (Key × V)} {ks : List Str} (ha : Ev ta σ H (.ref a)) (h : H a = some (.dK kvs)) (hk : kvs.map (·.1) = ks.map Sum.inr) (hl : ks.length < 64) :
    EvL (tCB rSortD (tCons ta tNil)) σ H ((srt ks).map V.str) := fun Q q =>
  ha _ fun H1 e1 => ⟨a, kvs, ks, rfl, .inl (e1 _ _ h), hk, hl, fun ys p h1 h2 h3 => by
    have e := srt_is h1 h2
    subst e
    exact q p _ (e1.free h3) (e1.trans (same_upd h3)) upd_same⟩
/-- [*d, *xs] -/
theorem el_star2 {a c : Addr} {ks os : List Str} {kvs : List (Key × V)} (ha : Ev ta σ H (.ref a)) (h : H a = some (.dK kvs)) (hk : kvs.map (·.1) = ks.map Sum.inr) (hb : ∀ H', Same H H' → Ev tb σ H' (.ref c)) (hc : H c = some (.lst (os.map V.str)) ∨ H c = some (.tup (os.map V.str))) (hl : (ks ++ os).length ≤ 100000) :
    EvL (tLst (tStarD ta (tStar K tb tNil))) σ H ((ks ++ os).map V.str) := fun Q q => by
  refine ha _ fun H1 e1 => ⟨a, kvs, rfl, .inl (e1 _ _ h), hb H1 e1 _ fun H2 e2 => ⟨c, os.map V.str, rfl, ?_, ?_⟩⟩
  · rcases hc with hc | hc
    · exact .inr (SqL.of (e2 _ _ (e1 _ _ hc)))
    · exact .inl (SqT.of (e2 _ _ (e1 _ _ hc)))
  · have e : (kvs.map fun kv : Key × V => kV kv.1) ++ (os.map V.str ++ []) = (ks ++ os).map V.str := by
      have := congrArg (List.map kV) hk
      rw [List.map_map, List.map_map] at this
      rw [List.append_nil, List.map_append]
      show List.map (kV ∘ fun x => x.1) kvs ++ _ = _
      rw [this]
      rfl
    show ((kvs.map fun kv : Key × V => kV kv.1) ++ (os.map V.str ++ [])).length ≤ sizeLine ∧ _
    rw [e]
    exact ⟨sz (by rw [List.length_map]; exact hl), fun p hp => q p _ (e1.free (e2.free hp)) ((e1.trans e2).trans (same_upd hp)) upd_same⟩
/-- [*d, *xs, *e] -/
theorem el_star3 {tc : TE} {a b c : Addr} {ks is os : List Str} {kvs ivs : List (Key × V)} (ha : Ev ta σ H (.ref a)) (h : H a = some (.dK kvs)) (hk : kvs.map (·.1) = ks.map Sum.inr) (hb : ∀ H', Same H H' → Ev tb σ H' (.ref c)) (hc : H c = some (.lst (os.map V.str)) ∨ H c = some (.tup (os.map V.str)))
    (hd : ∀ H', Same H H' → Ev tc σ H' (.ref b)) (h' : H b = some (.dK ivs)) (hk' : ivs.map (·.1) = is.map Sum.inr) (hl : (ks ++ os ++ is).length ≤ 100000) :
    EvL (tLst (tStarD ta (tStar K tb (tStarD tc tNil)))) σ H ((ks ++ os ++ is).map V.str) := fun Q q => by
  refine ha _ fun H1 e1 => ⟨a, kvs, rfl, .inl (e1 _ _ h), hb H1 e1 _ fun H2 e2 => ⟨c, os.map V.str, rfl, ?_, hd H2 (e1.trans e2) _ fun H3 e3 => ⟨b, ivs, rfl, .inl (e3 _ _ (e2 _ _ (e1 _ _ h'))), ?_⟩⟩⟩
  · rcases hc with hc | hc
    · exact .inr (SqL.of (e2 _ _ (e1 _ _ hc)))
    · exact .inl (SqT.of (e2 _ _ (e1 _ _ hc)))
  · have e : (kvs.map fun kv : Key × V => kV kv.1) ++ (os.map V.str ++ ((ivs.map fun kv : Key × V => kV kv.1) ++ [])) = (ks ++ os ++ is).map V.str := by
      have q1 := congrArg (List.map kV) hk
      rw [List.map_map, List.map_map] at q1
      have q2 := congrArg (List.map kV) hk'
      rw [List.map_map, List.map_map] at q2
      rw [List.append_nil, List.map_append, List.map_append, List.append_assoc]
      show List.map (kV ∘ fun x => x.1) kvs ++ (_ ++ List.map (kV ∘ fun x => x.1) ivs) = _
      rw [q1, q2]
      rfl
    show ((kvs.map fun kv : Key × V => kV kv.1) ++ (os.map V.str ++ ((ivs.map fun kv : Key × V => kV kv.1) ++ []))).length ≤ sizeLine ∧ _
    rw [e]
    exact ⟨sz (by rw [List.length_map]; exact hl), fun p hp => q p _ (e1.free (e2.free (e3.free hp))) ((e1.trans (e2.trans e3)).trans (same_upd hp)) upd_same⟩
/-- {f x: g x for x in a new list of texts}: the keys differ -/
theorem ek_dc {j : Nat} {vs : List Nat} {zs : List Str} {g : Str → V} (h : EvL tl σ H (zs.map V.str)) (hn : zs.Nodup) (hl : zs.length < 100000) (hw : ∀ x, wipe ((wipe σ vs).set j (some x)) vs = wipe σ vs)
    (hk : ∀ z H', z ∈ zs → Same H H' → Ev tk ((wipe σ vs).set j (some (.str z))) H' (.str z) ∧ Ev tv ((wipe σ vs).set j (some (.str z))) H' (g z)) :
    EvK (tDc (iList K tl) (gName j) tYes tk tv vs) σ H (zs.map fun z => (.inr z, g z)) := fun Q q => by
  refine h _ fun p H1 hp e1 hx => ⟨p, rfl, ⟨_, SqL.of hx⟩, fun D hD => ?_⟩
  have inj : ∀ i i', i < (zs.map V.str).length → i' < (zs.map V.str).length → ((zs[i]?.map Sum.inr).getD (.inl 0) : Key) = (zs[i']?.map Sum.inr).getD (.inl 0) → i = i' := fun i i' hi hi' e => by
    rw [List.length_map] at hi hi'
    rw [List.getElem?_eq_getElem hi, List.getElem?_eq_getElem hi'] at e
    exact (List.getElem_inj hn).mp (Sum.inr.inj (show (Sum.inr zs[i] : Key) = Sum.inr zs[i'] from e))
  refine dc_vals (walk_list (K := K) (a := p) (xs := zs.map V.str)) (fun i => (zs[i]?.map Sum.inr).getD (.inl 0)) (fun i => (zs[i]?.map g).getD .non) hD (by rw [List.length_map]; exact hl) (fun H2 e2 => SqL.of (e2 _ _ hx)) hw inj (fun i x H2 H3 hi e2 hy => ?_) (fun H2 e2 hl => q D H2 (e1.free hD) (e1.trans e2) ?_)
  · obtain ⟨rfl, hy⟩ := hy
    rw [List.getElem?_map] at hy
    obtain ⟨z, hz, rfl⟩ := Option.map_eq_some_iff.mp hy
    have hm := List.mem_of_getElem? hz
    refine ⟨Same.refl _, ?_, fun H4 e4 => ?_⟩
    · show Ev _ _ _ (kV (((zs[i]?).map Sum.inr).getD (.inl 0)))
      rw [hz]
      exact (hk z _ hm (e1.trans e2)).1
    · show Ev _ _ _ (((zs[i]?).map g).getD .non)
      rw [hz]
      exact (hk z _ hm (e1.trans (e2.trans e4))).2
  · rw [hl]
    congr 2
    rw [List.length_map]
    refine List.ext_getElem? fun i => ?_; rw [List.getElem?_map, List.getElem?_map]
    by_cases hi : i < zs.length
    · rw [List.getElem?_range hi, List.getElem?_eq_getElem hi]
      show some (_, _) = _
      rw [List.getElem?_eq_getElem hi]
      rfl
    · rw [List.getElem?_eq_none_iff.mpr (by rw [List.length_range]; omega), List.getElem?_eq_none_iff.mpr (by omega)]
      rfl
theorem valV_map {zs : List Str} {g : Str → V} {z : Str} (h : z ∈ zs) : valV (zs.map fun z => ((.inr z : Key), g z)) (.inr z) = some (g z) := by
  induction zs with
  | nil => cases h
  | cons y r ih =>
    show valV (((.inr y : Key), g y) :: _) _ = _
    rw [valV_cons]
    by_cases e : y = z
    · subst e
      rw [if_pos rfl]
    · rw [if_neg (fun q => e (Sum.inr.inj q))]
      exact ih ((List.mem_cons.mp h).resolve_left fun q => e q.symm)
end
abbrev Knots := List (Str × Rows)
def kd (ks : Knots) : List (Str × PyData) := ks.map fun p => (p.1, dRows p.2)
def kn (ks : Knots) : List Str := ks.map (·.1)
theorem kd_keys (ks : Knots) : (kd ks).map (·.1) = kn ks := by
  unfold kd kn
  rw [List.map_map]
  rfl
theorem kd_get {ks : Knots} {x : Str} {r : Rows} (hn : (kn ks).Nodup) (h : (x, r) ∈ ks) : (kd ks).lookup x = some (dRows r) := by
  induction ks with
  | nil => cases h
  | cons p t ih =>
    obtain ⟨h1, h2⟩ := List.nodup_cons.mp (show (p.1 :: kn t).Nodup from hn)
    show List.lookup x ((p.1, dRows p.2) :: kd t) = _
    rw [List.lookup_cons]; rcases List.mem_cons.mp h with e | m
    · subst e
      simp
    · have q : (x == p.1) = false := by
        simp only [beq_eq_false_iff_ne]
        intro e
        exact h1 (List.mem_map.mpr ⟨(x, r), m, e⟩)
      rw [q]
      exact ih h2 m
end Bc

namespace Bc
open PySem L2 PyProof.Rows StX
section
variable {P : Program} {w : World} {K : PySem.W.Frag} {mg : Str → Option Value} {base : Heap} {ad : Ad}
/-! ### check_rows -/
def keysD (ds : List (Str × PyData)) : List Str := ds.map fun p => p.1
def rowsBad (ds : List (Str × PyData)) (os : List Str) (z : Str) : Bool := !okRows (fun x => decide (x ∈ keysD ds ++ os)) ((ds.lookup z).getD .none)
def spRows (C : Addr) : Sp := fun vs H Q E => ∃ (a c : Addr) (kv : List (Key × V)) (ds : List (Str × PyData)) (os : List Str), vs = [.ref a, .ref c] ∧ H a = some (.dK kv) ∧ Dk H kv ds ∧ (H c = some (.lst (os.map V.str)) ∨ H c = some (.tup (os.map V.str))) ∧
  (keysD ds ++ os).Nodup ∧ (keysD ds ++ os).length ≤ 1000 ∧ ds.length < 64 ∧ (∀ p ∈ ds, smallN 2 p.2 ∧ Bn.TellV (.str p.1)) ∧ ((srt (keysD ds)).find? (rowsBad ds os) = none → ∀ H', Same H H' → Q .non H') ∧ ∀ z, (srt (keysD ds)).find? (rowsBad ds os) = some z → Raised C (.str z) H E
theorem scRows : FnScope ["knots", "outlets", "targets", "knot", "name"] ["knots", "outlets"] (defScope sRows) := ⟨rfl, rfl, rfl, by decide +kernel, rfl, by decide +kernel, by decide +kernel⟩
theorem look_of {α : Type} : ∀ {l : List (Str × α)} {x : Str}, x ∈ l.map (fun p => p.1) → ∃ d, l.lookup x = some d ∧ (x, d) ∈ l
  | [], _, h => nomatch h
  | (k, e) :: r, x, h => by
    rw [List.lookup_cons]
    by_cases q : x = k
    · subst q
      exact ⟨e, by simp, List.mem_cons_self⟩
    · have q2 : (x == k) = false := by simpa using q
      rw [q2]
      rcases List.mem_cons.mp h with z | m
      · exact absurd z q
      · obtain ⟨d, h1, h2⟩ := look_of m
        exact ⟨d, h1, List.mem_cons_of_mem _ h2⟩
theorem ok_rows (T : Tb P K mg ad) : FnOk P w K mg base (L2.CX P w) 5 ad.rows ad.dRows ["knots", "outlets"] (spRows ad.cBad) := by
  have GA : FnOk P w K mg base CX0 4 ad.areRows ad.dAreRows ["told", "targets"] spAreRows := ok_areRows T.tx
  have bA := T.tx.fAreRows.binds (ps := ["told", "targets"]) fun _ _ _ _ _ _ us hl => match us, hl with | [_, _], _ => rfl
  refine T.tx.fRows.okX scRows (fun vs H Q E h => ?_) (fun cdv A outer s H vs Q E hr h => ?_)
  · obtain ⟨a, c, kv, ds, os, rfl, _⟩ := h
    rfl
  · obtain ⟨a, c, kv, ds, os, rfl, ha, hkv, hc, nd, few, f64, sm, k, kr⟩ := h
    refine ⟨_, pss_cons (ps_setDc (i := 2) (own := [("name", 4)]) (g := gName 4) (tt := tYes) rfl scRows.nd rfl rfl (swD_true rfl rfl rfl (by decide +kernel)) (pi_list (pe_lst (pa_starD rfl (pv 0) (pa_star (pv 1) pa_nil)))) (blkOk_by (N := ["knots", "outlets", "targets", "knot", "name"]) (sc := defScope sRows) (by decide +kernel))
        (fun _ _ _ _ _ => pg_name (i := 4) scRows.nd rfl (Or.inl rfl)) (fun _ _ _ _ _ => pts_nil) (fun _ _ _ _ _ => pv 4) (fun _ _ _ _ _ => pe_bl))
      (pss_one (ps_for (passes_of rfl) rfl (pi_list (pe_callB (call_sortedD rfl) (by rfl) T.tx.sorted b_sorted (pa_cons (pv 0) pa_nil))) (pg_name (i := 3) scRows.nd rfl (.inl rfl))
        (pss_one (ps_if (pt_not (pt_val (pe_call GA hr (by rfl) T.tx.gAreRows T.tx.fAreRows.kp bA .nil pass0 (pa_cons (pe_dget (hu_of hr) (pv 0) (pv 3) (fun _ _ => rfl)) (pa_cons (pv 2) pa_nil))))) (pss_one (Bn.ps_raiseBad rfl (T.at rfl rfl rfl) hr (takes_of rfl rfl rfl rfl) (by exact (pa_cons (pv 3) pa_nil)))) pss_nil)))), ?_⟩
    have hkeys : kv.map (·.1) = (keysD ds).map Sum.inr := hkv.keys
    have kl : (keysD ds).length = ds.length := List.length_map _
    refine q_asgK (ek_dc (K := K) (zs := keysD ds ++ os) (g := fun _ => .bl true) (el_star2 (ev_tv rfl) ha hkeys (fun _ _ => ev_tv rfl) hc (by omega)) nd (by omega) (fun x => rfl) fun z H' _ _ => ⟨ev_tv rfl, ev_tc⟩) fun D H1 hD e1 hl => ?_
    have ht : TgB H1 D (fun x => decide (x ∈ keysD ds ++ os)) := ⟨_, hl, fun x => by
      show (valV _ _).isSome = decide (x ∈ keysD ds ++ os)
      by_cases hx : x ∈ keysD ds ++ os
      · rw [valV_map (g := fun _ => .bl true) hx, decide_eq_true hx]
        rfl
      · have e : valV ((keysD ds ++ os).map fun z => ((.inr z : Key), V.bl true)) (.inr x) = none := by
          generalize keysD ds ++ os = l at hx
          induction l with
          | nil => rfl
          | cons y r ih =>
            show valV ((Sum.inr y, V.bl true) :: _) _ = none
            rw [valV_cons, if_neg (fun q => hx (by rw [Sum.inr.inj q]; exact List.mem_cons_self))]
            exact ih fun m => hx (List.mem_cons_of_mem _ m)
        rw [e, decide_eq_false hx]
        rfl⟩
    refine s_forN (K := K) (el_sortedD (ev_tv rfl) (e1 _ _ ha) hkeys (by omega)) fun p2 H3 e3 hxs3 => ?_
    refine ⟨fun i σ H' => (∃ x, σ = [some (.ref a), some (.ref c), some (.ref D), x, none] ∧ Same H3 H') ∧ ((srt (keysD ds)).drop i).find? (rowsBad ds os) = (srt (keysD ds)).find? (rowsBad ds os), ⟨⟨none, rfl, Same.refl _⟩, rfl⟩, fun _ _ _ ⟨⟨_, _, q⟩, _⟩ => q, fun i x σ' H' hx p => ?_, fun σ' H' p => ?_⟩
    · obtain ⟨⟨x0, rfl, e4⟩, hf⟩ := p
      rw [List.getElem?_map] at hx
      obtain ⟨z, hz, rfl⟩ := Option.map_eq_some_iff.mp hx
      have hm : z ∈ keysD ds := (srt_perm _).mem_iff.mp (List.mem_of_getElem? hz)
      obtain ⟨d, hd, hmem⟩ := look_of hm
      obtain ⟨v, hv, hdt⟩ := hkv.get hd
      obtain ⟨sm2, tell⟩ := sm _ hmem
      have e14 := e1.trans (e3.trans e4)
      have hi : i < (srt (keysD ds)).length := (List.getElem?_eq_some_iff.mp hz).1
      rw [List.drop_eq_getElem_cons hi, (List.getElem?_eq_some_iff.mp hz).2] at hf
      have test := fun (t : TA) (E' : XK) (hev : EvA t [some (V.ref a), some (.ref c), some (.ref D), some (.str z), none] H' [v, .ref D]) => EvB.not (EvB.of (b := okRows (fun x => decide (x ∈ keysD ds ++ os)) d) (ev_call (sp := spAreRows) (E := E') hev fun H5 e5 Q5 q5 => ⟨v, D, d, _, rfl, hdt.go (e14.trans e5), sm2, ht.go (e3.trans (e4.trans e5)), q5⟩))
      have hbad : rowsBad ds os z = !okRows (fun x => decide (x ∈ keysD ds ++ os)) d := by
        unfold rowsBad
        rw [hd]
        rfl
      cases hb : rowsBad ds os z with
      | true =>
        rw [List.find?_cons_of_pos hb] at hf
        refine if_yes (evb_is (test _ _ (ea_cons (ev_dget (k := .inr z) (ev_tv rfl) (fun _ _ => ev_tv rfl) (e14 _ _ ha) hv) fun _ _ => ea_cons (ev_tv rfl) fun _ _ => ea_nil)) (by rw [← hbad]; exact hb)) fun H5 e5 => s_raise (ev_tv rfl) tell ((kr z hf.symm).go (e14.trans e5))
      | false =>
        rw [List.find?_cons_of_neg (by rw [hb]; decide)] at hf
        exact s_no (evb_is (test _ _ (ea_cons (ev_dget (k := .inr z) (ev_tv rfl) (fun _ _ => ev_tv rfl) (e14 _ _ ha) hv) fun _ _ => ea_cons (ev_tv rfl) fun _ _ => ea_nil)) (by rw [← hbad]; exact hb)) fun H5 e5 => ⟨⟨_, rfl, e4.trans e5⟩, hf⟩
    · obtain ⟨⟨x0, rfl, e4⟩, hf⟩ := p
      rw [List.length_map, List.drop_length] at hf
      exact k hf.symm H' (e1.trans (e3.trans e4))
end
end Bc

namespace Bc
open PySem L2 PyProof.Rows StX
/-- what is raised while a thing is locked leaves it unlocked -/
theorem takes_unlock {X : Cx} {W : WX} (tk : Takes X W) : Takes X (fun cls d σ H => ∃ a od u, H a = some (.frz od u) ∧ (∀ o' u', X.H_0 a ≠ some (.frz o' u')) ∧ W cls d σ (upd H a u)) := fun x s' xe => by
  obtain ⟨e, B, sI, pz, σ, H, cls, d, rfl, I, nb, up, sky, na, os, ag, a, od, u, ha, hn, w⟩ := xe
  have ne : e ≠ a := fun z => by
    rw [z, ha] at na
    cases na
  exact tk _ _ ⟨e, B, sI, pz, σ, upd H a u, cls, d, rfl, I.unlock ha hn, nb, up, sky, by rw [upd_ne ne]; exact na, os, ag, w⟩
theorem upd_comm2 {H : Hp} {a b : Addr} {o u : HO} (n : a ≠ b) : upd (upd H a o) b u = upd (upd H b u) a o := by
  funext x
  by_cases h1 : x = a
  · subst h1
    rw [upd_ne n, upd_same, upd_same]
  · by_cases h2 : x = b
    · subst h2
      rw [upd_same, upd_ne h1, upd_same]
    · rw [upd_ne h2, upd_ne h1, upd_ne h1, upd_ne h2]
theorem same_unlock {H H' : Hp} {b : Addr} {u v : HO} (h : H b = some u) (e : Same (upd H b v) H') : Same H (upd H' b u) := fun x o q => by
  by_cases hx : x = b
  · subst hx
    rw [h] at q
    cases q
    exact upd_same
  · rw [upd_ne hx]
    exact e x o (by rw [upd_ne hx]; exact q)
/-- lists and tuples stand -/
def TL (H H' : Hp) : Prop := (∀ c xs, H c = some (.tup xs) → H' c = some (.tup xs)) ∧ ∀ c xs, H c = some (.lst xs) → H' c = some (.lst xs)
theorem TL.same {H H' : Hp} (e : Same H H') : TL H H' := ⟨fun c xs h => e _ _ h, fun c xs h => e _ _ h⟩
theorem TL.trans {H H' H2 : Hp} (e : TL H H') (f : TL H' H2) : TL H H2 := ⟨fun c xs h => f.1 _ _ (e.1 _ _ h), fun c xs h => f.2 _ _ (e.2 _ _ h)⟩
theorem TL.upd {H : Hp} {b : Addr} {o : HO} (h1 : ∀ xs, H b ≠ some (.tup xs)) (h2 : ∀ xs, H b ≠ some (.lst xs)) : TL H (L2.upd H b o) :=
  ⟨fun c xs h => by rw [upd_ne (fun e => h1 xs (by rw [← e]; exact h))]; exact h, fun c xs h => by rw [upd_ne (fun e => h2 xs (by rw [← e]; exact h))]; exact h⟩
mutual
theorem Dt.tl {H H' : Hp} (e : TL H H') : ∀ (d : PyData) (v : V), Dt H v d → Dt H' v d
  | .none, _, .non => .non
  | .bool _, _, .bl b => .bl b
  | .int _, _, .int i => .int i
  | .str _, _, .str x => .str x
  | .list ds, _, .lst h k => .lst (e.2 _ _ h) (Dts.tl e ds _ k)
  | .tuple ds, _, .tup h k => .tup (e.1 _ _ h) (Dts.tl e ds _ k)
theorem Dts.tl {H H' : Hp} (e : TL H H') : ∀ (ds : List PyData) (vs : List V), Dts H vs ds → Dts H' vs ds
  | [], _, .nil => .nil
  | d :: ds, _, .cons h k => .cons (Dt.tl e d _ h) (Dts.tl e ds _ k)
end
theorem dk_has {H : Hp} {z : Str} : ∀ {kv : List (Key × V)} {ds : List (Str × PyData)}, Dk H kv ds → (valV kv (.inr z)).isSome = decide (z ∈ keysD ds)
  | _, _, .nil => rfl
  | _, _, .cons (k := k) (ds := r) h q => by
    rw [valV_cons]
    show _ = decide (z ∈ k :: keysD r)
    by_cases e : k = z
    · rw [e, if_pos rfl]
      simp
    · rw [if_neg (fun x => e (Sum.inr.inj x)), dk_has q]
      have e2 : ¬ z = k := fun x => e x.symm
      simp [e2]
theorem Dk.atV {H : Hp} : ∀ {kvs : List (Key × V)} {ds : List (Str × PyData)} {i : Nat} {p : Key × V}, Dk H kvs ds → kvs[i]? = some p → ∃ x d, ds[i]? = some (x, d) ∧ p.1 = .inr x ∧ Dt H p.2 d
  | _, _, _, _, .nil, e => by simp at e
  | _, _, 0, _, .cons h _, e => by
    simp at e
    subst e
    exact ⟨_, _, rfl, rfl, h⟩
  | _, _, i + 1, p, .cons _ k, e => by
    obtain ⟨x, d, h1, h2⟩ := Dk.atV (i := i) (p := p) k (by simpa using e)
    exact ⟨x, d, by simpa using h1, h2⟩
section
variable {P : Program} {w : World} {K : PySem.W.Frag} {mg : Str → Option Value} {base : Heap} {ad : Ad}
theorem s_raiseW {W : WX} {C : Addr} {te : TE} {D : Ends} {σ : L2.St} {H : Hp} {v : V} (h : Ev te σ H v) (tv : Bn.TellV v) (r : ∀ d H', Same H H' → H' d = none → W (.ref C) (some d) σ (L2.upd H' d (.xd [(("name" : Str), v)]))) : Bn.tRaiseBad C W (tCons te tNil) D σ H := h _ fun H' e => ⟨v, rfl, tv, fun d hd => r d H' e hd⟩
/-! ### check_inlets -/
def inBad (ks : List Str) (p : Str × PyData) : Bool := match p.2 with
  | .str z => !decide (z ∈ ks)
  | _ => true
def spInlets (C : Addr) : Sp := fun vs H Q E => ∃ (a b : Addr) (kv iv : List (Key × V)) (ds es : List (Str × PyData)), vs = [.ref a, .ref b] ∧ a ≠ b ∧ H a = some (.dK kv) ∧ Dk H kv ds ∧ H b = some (.dK iv) ∧ Dk H iv es ∧ (∀ p ∈ es, Bn.TellV (.str p.1)) ∧
  (es.find? (inBad (keysD ds)) = none → ∀ H', Same H H' → Q .non H') ∧ ∀ p, es.find? (inBad (keysD ds)) = some p → Raised C (.str p.1) H E
theorem scInlets : FnScope ["knots", "inlets", "inlet", "knot"] ["knots", "inlets"] (defScope sInlets) := ⟨rfl, rfl, rfl, by decide +kernel, rfl, by decide +kernel, by decide +kernel⟩
theorem ok_inlets (T : Tb P K mg ad) : FnOk P w K mg base (L2.CX P w) 2 ad.inlets ad.dInlets ["knots", "inlets"] (spInlets ad.cBad) := by
  refine T.tx.fInlets.okX scInlets (fun vs H Q E h => ?_) (fun cdv A outer s H vs Q E hr h => ?_)
  · obtain ⟨a, b, kv, iv, ds, es, rfl, _⟩ := h
    rfl
  · obtain ⟨a, b, kv, iv, ds, es, rfl, ne, ha, hkv, hb, hiv, tell, k, kr⟩ := h
    refine ⟨_, pss_one (ps_lock (ps_for (passes_of rfl) rfl (pi_items (pv 1)) (pg_tup (by rfl) (pgs_cons (pg_name (i := 2) scInlets.nd rfl (.inl rfl)) (pgs_cons (pg_name (i := 3) scInlets.nd rfl (.inl rfl)) pgs_nil)))
      (pss_one (ps_if (PW.pt (pw_or (pt_not (pt_val (pe_isi rfl T.tx.isinstance (pv 3) (pe_ty T.tx.str b_str)))) (pw_or1 (pt_cmp (pc_dnotin (hu_of hr) (pv 3) (pv 0)))))) (pss_one (Bn.ps_raiseBad rfl (T.at rfl rfl rfl) hr (takes_unlock (takes_of rfl rfl rfl rfl)) (by exact (pa_cons (pv 2) pa_nil)))) pss_nil)))), ?_⟩
    refine ⟨b, _, hb, True.intro, fun od => ?_⟩
    refine ⟨_, rfl, b, od, iv, rfl, upd_same, ?_⟩
    refine for_it (walk_items (d := b) (o := od) (kvs := iv)) (fun i σ H' => (∃ x y, σ = [some (.ref a), some (.ref b), x, y] ∧ Same (upd H b (.frz od (.dK iv))) H') ∧ (es.drop i).find? (inBad (keysD ds)) = es.find? (inBad (keysD ds))) ⟨⟨none, none, rfl, Same.refl _⟩, rfl⟩ (fun i σ H' _ ⟨⟨_, _, _, q⟩, _⟩ => q _ _ upd_same) (fun i x σ H1 H2 hi p y => ?_) (fun σ H' p => ?_)
    · obtain ⟨⟨x0, y0, rfl, e1⟩, hf⟩ := p
      obtain ⟨t, u, v, rfl, ht, rfl, hu, hv⟩ := y
      obtain ⟨⟨pk, pval⟩, hp, rfl⟩ := Option.map_eq_some_iff.mp hu
      replace hv : iv[i]?.map Prod.snd = some v := hv
      rw [hp] at hv
      obtain rfl : pval = v := Option.some.inj hv
      obtain ⟨x, d, hd, hk, hdt⟩ := hiv.atV hp
      obtain rfl : pk = .inr x := hk
      replace hdt : Dt H pval d := hdt
      have hil : i < es.length := (List.getElem?_eq_some_iff.mp hd).1
      rw [List.drop_eq_getElem_cons hil, (List.getElem?_eq_some_iff.mp hd).2] at hf
      have hmem : (x, d) ∈ es := List.mem_of_getElem? hd
      refine ⟨t, _, rfl, SqT.of upd_same, rfl, _, _, rfl, _, _, rfl, rfl, ?_⟩
      have e2 := e1.trans (same_upd (o := HO.tup [V.str x, pval]) ht)
      have hdt2 : Dt (upd H1 t (.tup [V.str x, pval])) pval d := Dt.tl (TL.trans (TL.upd (fun xs h => by rw [hb] at h; cases h) fun xs h => by rw [hb] at h; cases h) (TL.same e2)) d _ hdt
      have ha2 : (upd H b (.frz od (.dK iv))) a = some (.dK kv) := by rw [upd_ne ne]; exact ha
      have tx : Bn.TellV (.str x) := tell (x, d) hmem
      have nof : ∀ o' u', H b ≠ some (.frz o' u') := fun o' u' h => by rw [hb] at h; cases h
      have raise : inBad (keysD ds) (x, d) = true → ∀ H5, Same (upd H1 t (.tup [V.str x, pval])) H5 → ∀ d' H6, Same H5 H6 → H6 d' = none → b ≠ d' ∧ H6 b = some (.frz od (.dK iv)) ∧ E (.ref ad.cBad) (some d') (upd (upd H6 d' (.xd [(("name" : Str), .str x)])) b (.dK iv)) := fun hbad H5 e5 d' H6 e6 hd' => by
        have hf' := hf
        rw [List.find?_cons_of_pos hbad] at hf'
        have e26 := e2.trans (e5.trans e6)
        have hfz := e26 _ _ upd_same
        have nb : b ≠ d' := ne_of_none hfz hd'
        refine ⟨nb, hfz, ?_⟩
        rw [← upd_comm2 nb]
        exact kr (x, d) hf'.symm d' _ (same_unlock hb e26) (by rw [upd_ne nb.symm]; exact hd')
      by_cases hS : ∃ z, d = .str z
      · obtain ⟨z, rfl⟩ := hS
        cases hdt2 with
        | str z =>
        by_cases hz : z ∈ keysD ds
        · rw [List.find?_cons_of_neg (by show ¬ (!decide (z ∈ keysD ds)) = true; simp [hz])] at hf
          refine s_no (evb_is (EvB.or (EvB.not (EvB.of (ev_isStr (z := z) (ev_tv rfl)))) fun _ H4 e4 => EvB.of (ev_notInD (k := .inr z) (ev_tv rfl) (fun _ _ => ev_tv rfl) (e4 _ _ (e2 _ _ ha2)))) ?_) fun H5 e5 => ⟨⟨_, _, rfl, e2.trans e5⟩, hf⟩
          rw [dk_has hkv]
          simp [hz]
        · refine if_yes (evb_is (EvB.or (EvB.not (EvB.of (ev_isStr (z := z) (ev_tv rfl)))) fun _ H4 e4 => EvB.of (ev_notInD (k := .inr z) (ev_tv rfl) (fun _ _ => ev_tv rfl) (e4 _ _ (e2 _ _ ha2)))) ?_) fun H5 e5 => ?_
          · rw [dk_has hkv]
            simp [hz]
          · exact s_raiseW (v := .str x) (ev_tv rfl) tx fun d' H6 e6 hd' => let q := raise (by show (!decide (z ∈ keysD ds)) = true; simp [hz]) H5 e5 d' H6 e6 hd'; ⟨b, od, .dK iv, by rw [upd_ne q.1]; exact q.2.1, nof, q.2.2⟩
      · have hb' : isStrB d = false := by
          cases d with
          | str z => exact absurd ⟨z, rfl⟩ hS
          | _ => rfl
        have hbad : inBad (keysD ds) (x, d) = true := by
          cases d with
          | str z => exact absurd ⟨z, rfl⟩ hS
          | _ => rfl
        refine if_yes (evb_is (EvB.or (b := false) (EvB.not (EvB.of (ev_is (ev_strD (ev_tv rfl) hdt2) (by rw [hb'])))) fun z => absurd z (by decide)) rfl) fun H5 e5 => ?_
        exact s_raiseW (v := .str x) (ev_tv rfl) tx fun d' H6 e6 hd' => let q := raise hbad H5 e5 d' H6 e6 hd'; ⟨b, od, .dK iv, by rw [upd_ne q.1]; exact q.2.1, nof, q.2.2⟩
    · obtain ⟨⟨x0, y0, rfl, e1⟩, hf⟩ := p
      have el := hiv.length
      rw [el, List.drop_length] at hf
      exact ⟨e1 _ _ upd_same, k hf.symm _ (same_unlock hb e1)⟩
end
end Bc

namespace Bc
open PySem L2 PyProof.Rows StX
theorem take_snoc {α : Type} {l : List α} {i : Nat} {x : α} (h : l[i]? = some x) : l.take (i + 1) = l.take i ++ [x] := by
  rw [List.take_add_one, h]
  rfl
/-- [e for x in t for y in x if test], t a tuple of tuples: what is kept, row by row -/
theorem el_lc2 {K : PySem.W.Frag} {tl : TE} {i0 i1 : Nat} {vs : List Nat} {tt : TT} {te : TE} {σ : L2.St} {H : Hp} {a : Addr} {xs : List V} {rows : List (List V)} {keep : V → Bool} (h : Ev tl σ H (.ref a)) (ha : H a = some (.tup xs))
    (hr : ∀ (i : Nat) (x : V), xs[i]? = some x → ∃ (b : Addr) (ys : List V), x = .ref b ∧ rows[i]? = some ys ∧ H b = some (.tup ys)) (hl : xs.length = rows.length) (few : rows.flatten.length < 100000)
    (hw0 : ∀ x, wipe ((wipe σ vs).set i0 (some x)) vs = wipe σ vs) (hw1 : ∀ x y, wipe ((wipe ((wipe σ vs).set i0 (some x)) [i1]).set i1 (some y)) [i1] = wipe ((wipe σ vs).set i0 (some x)) [i1])
    (hv : ∀ x, ((wipe σ vs).set i0 (some x))[i0]? = some (some x))
    (ht : ∀ x y H', (∃ ys ∈ rows, y ∈ ys) → Same H H' → EvB tt ((wipe ((wipe σ vs).set i0 (some x)) [i1]).set i1 (some y)) H' (keep y))
    (he : ∀ x y H', (∃ ys ∈ rows, y ∈ ys) → Same H H' → Ev te ((wipe ((wipe σ vs).set i0 (some x)) [i1]).set i1 (some y)) H' y) :
    EvL (tLc2 (iTup K tl) (gName i0) tYes (iTup K (tVar i0)) (gName i1) tt te vs [i1]) σ H (rows.flatten.filter keep) := fun Q q => by
  refine h _ fun H1 e1 => ⟨a, rfl, ⟨xs, SqT.of (e1 _ _ ha)⟩, fun D hD => ?_⟩
  refine ⟨fun i m H' => m = xs.length - i ∧ i ≤ xs.length ∧ Same H1 H' ∧ H' D = some (.lst ((rows.take i).flatten.filter keep)), ⟨xs.length, by simp, Nat.zero_le _, same_upd hD, upd_same⟩, ?_⟩
  rintro i m H' ⟨rfl, hi, e2, hd⟩
  have e12 := e1.trans e2
  by_cases hlt : i < xs.length
  · refine .inr ⟨⟨xs, xs[i], SqT.of (e12 _ _ ha), List.getElem?_eq_getElem hlt⟩, fun H'' => Same H1 H'' ∧ H'' D = some (.lst ((rows.take (i + 1)).flatten.filter keep)), fun H'' p => ⟨xs.length - (i + 1), by omega, rfl, hlt, p.1, p.2⟩, fun x H'' y => ?_⟩
    obtain ⟨rfl, y⟩ := y
    have hx := y xs (SqT.of (e12 _ _ ha))
    obtain ⟨b, ys, rfl, hrow, hb⟩ := hr i x hx
    refine ⟨hw0 _, ?_⟩
    refine ⟨.ref b, hv _, b, rfl, ⟨ys, SqT.of (e12 _ _ hb)⟩, ?_⟩
    refine ⟨fun j k H4 => k = ys.length - j ∧ j ≤ ys.length ∧ Same H1 H4 ∧ H4 D = some (.lst ((rows.take i).flatten.filter keep ++ (ys.take j).filter keep)), ⟨ys.length, by simp, Nat.zero_le _, e2, by simpa using hd⟩, ?_⟩
    rintro j k H4 ⟨rfl, hj, e3, hd4⟩
    have hb4 := e3 _ _ (e1 _ _ hb)
    by_cases hlt2 : j < ys.length
    · refine .inr ⟨⟨ys, ys[j], SqT.of hb4, List.getElem?_eq_getElem hlt2⟩, fun H5 => Same H1 H5 ∧ H5 D = some (.lst ((rows.take i).flatten.filter keep ++ (ys.take (j + 1)).filter keep)), fun H5 p => ⟨ys.length - (j + 1), by omega, rfl, hlt2, p.1, p.2⟩, fun y H5 yy => ?_⟩
      obtain ⟨rfl, yy⟩ := yy
      have hy := yy ys (SqT.of hb4)
      have hin : ∃ zs ∈ rows, y ∈ zs := ⟨ys, List.mem_of_getElem? hrow, List.mem_of_getElem? hy⟩
      refine ⟨hw1 _ _, ?_⟩
      refine ht _ y H5 hin (e1.trans e3) _ fun H6 e6 => ?_
      cases hk : keep y with
      | false =>
        refine iteF ⟨e3.trans e6, ?_⟩
        rw [e6 _ _ hd4, take_snoc hy, List.filter_append, List.filter_cons, hk]
        simp
      | true =>
        refine iteT (he _ y H6 hin (e1.trans (e3.trans e6)) _ fun H7 e7 => ⟨_, e7 _ _ (e6 _ _ hd4), szl ?_, Same.mut (e3.trans (e6.trans e7)) hD, ?_⟩)
        · have h1 : (rows.take i).flatten.length + ys.length ≤ rows.flatten.length := by
            have e : rows.flatten = (rows.take i).flatten ++ (ys ++ (rows.drop (i + 1)).flatten) := by
              have hi2 : i < rows.length := by omega
              have e0 : rows = rows.take i ++ (rows[i] :: rows.drop (i + 1)) := by rw [← List.drop_eq_getElem_cons hi2, List.take_append_drop]
              have e1 : rows[i] = ys := by
                rw [List.getElem?_eq_getElem hi2] at hrow
                exact Option.some.inj hrow
              rw [e1] at e0
              conv => lhs; rw [e0]
              rw [List.flatten_append, List.flatten_cons]
            rw [e, List.length_append, List.length_append]
            omega
          have h2 := List.length_filter_le keep (rows.take i).flatten
          have h3 := List.length_filter_le keep (ys.take j)
          rw [List.length_take] at h3
          rw [List.length_append]
          omega
        · rw [upd_same, take_snoc hy, List.filter_append, List.filter_cons, hk]
          simp
    · have e : j = ys.length := by omega
      subst e
      refine .inl ⟨⟨ys, SqT.of hb4, Nat.le_refl _⟩, e3, ?_⟩
      rw [hd4, List.take_length, take_snoc hrow, List.flatten_append, List.filter_append]
      simp
  · have e : i = xs.length := Nat.le_antisymm hi (Nat.le_of_not_lt hlt)
    subst e
    refine .inl ⟨⟨xs, SqT.of (e12 _ _ ha), Nat.le_refl _⟩, q D H' (e1.free hD) e12 ?_⟩
    rw [hd, hl, List.take_length]
/-- the inlets as data -/
abbrev Ins := List (Str × Str)
def id_ (is : Ins) : List (Str × PyData) := is.map fun p => (p.1, .str p.2)
theorem id_keys (is : Ins) : (id_ is).map (·.1) = is.map (·.1) := by
  unfold id_
  rw [List.map_map]
  rfl
theorem Dk.at {H : Hp} : ∀ {kvs : List (Key × V)} {ds : List (Str × PyData)} {i : Nat} {x : Str} {d : PyData}, Dk H kvs ds → ds[i]? = some (x, d) → ∃ v, kvs[i]? = some (.inr x, v) ∧ Dt H v d
  | _, _, _, _, _, .nil, e => by simp at e
  | _, _, 0, _, _, .cons h _, e => by simp at e; obtain ⟨rfl, rfl⟩ := e; exact ⟨_, rfl, h⟩
  | _, _, i + 1, x, d, .cons _ k, e => by
    obtain ⟨v, h1, h2⟩ := Dk.at (i := i) k (by simpa using e)
    exact ⟨v, by simpa using h1, h2⟩
section
variable {P : Program} {w : World} {K : PySem.W.Frag} {mg : Str → Option Value} {base : Heap} {ad : Ad}
/-- succ: the knots in the drops of a knot's turn -/
def succ (ks : Knots) (r : Rows) : List Str := r.2.flatten.filter fun x => decide (x ∈ kn ks)
theorem kd_none {ks : Knots} {x : Str} (h : x ∉ kn ks) : (kd ks).lookup x = none := by
  induction ks with
  | nil => rfl
  | cons p t ih =>
    show List.lookup x ((p.1, dRows p.2) :: kd t) = _
    have q : (x == p.1) = false := by
      simp only [beq_eq_false_iff_ne]
      intro e
      exact h (by rw [e]; exact List.mem_cons_self)
    rw [List.lookup_cons, q]
    exact ih fun m => h (List.mem_cons_of_mem _ m)
theorem kd_isSome {H : Hp} {kv : List (Key × V)} {ks : Knots} {x : Str} (hkv : Dk H kv (kd ks)) (hn : (kn ks).Nodup) : (valV kv (.inr x)).isSome = decide (x ∈ kn ks) := by
  by_cases h : x ∈ kn ks
  · obtain ⟨⟨x', r⟩, hm, rfl⟩ := List.mem_map.mp h
    obtain ⟨v, hv, _⟩ := hkv.get (kd_get hn hm)
    rw [hv, decide_eq_true h]
    rfl
  · rw [hkv.none (kd_none h), decide_eq_false h]
    rfl
def spMet : Sp := fun vs H Q _ => ∃ (a : Addr) (x : Str) (kv : List (Key × V)) (ks : Knots) (r : Rows), vs = [.ref a, .str x] ∧ H a = some (.dK kv) ∧ Dk H kv (kd ks) ∧ (kn ks).Nodup ∧ (x, r) ∈ ks ∧ r.2.flatten.length ≤ 1000 ∧
  ∀ p H', H p = none → Same H H' → H' p = some (.lst ((succ ks r).map V.str)) → Q (.ref p) H'
theorem scMet : FnScope ["knots", "knot", "target", "drop"] ["knots", "knot"] (defScope sMet) := ⟨rfl, rfl, rfl, by decide +kernel, rfl, by decide +kernel, by decide +kernel⟩
theorem map_str_filter (l : List Str) (p : Str → Bool) (q : V → Bool) (h : ∀ x, q (.str x) = p x) : (l.map V.str).filter q = (l.filter p).map V.str := by
  induction l with
  | nil => rfl
  | cons x r ih =>
    rw [List.map_cons, List.filter_cons, List.filter_cons, h x, ih]
    cases p x <;> rfl
theorem ok_met (T : Tx K mg ad) : FnOk P w K mg base CX0 2 ad.met ad.dMet ["knots", "knot"] spMet := by
  refine T.fMet.ok scMet (fun vs H Q E h => ?_) (fun cdv A outer s H vs Q E hr h => ?_)
  · obtain ⟨a, x, kv, ks, r, rfl, _⟩ := h
    rfl
  · obtain ⟨a, x, kv, ks, r, rfl, ha, hkv, hn, hm, few, k⟩ := h
    refine ⟨_, pss_one (ps_ret (pe_lc2 (own := [("drop", 3), ("target", 2)]) (vs1 := [2]) (g := gName 3) (tt := tYes) (wi1 := iTup K (tVar 3)) (g1 := gName 2) rfl scMet.nd (pi_tup (pe_ix ix_tup (pe_dget (hu_of hr) (pv 0) (pv 1) (fun _ _ => rfl)) pe_int (fun _ _ => rfl)))
        (blkOk_by (N := ["knots", "knot", "target", "drop"]) (sc := defScope sMet) (by decide +kernel)) (by decide) (fun _ _ _ _ _ => pg_name (i := 3) scMet.nd rfl (Or.inl rfl)) (fun _ _ _ _ _ => pts_nil) (fun _ _ _ _ _ => pi_tup (pv 3)) (fun _ _ _ _ _ => pg_name (i := 2) scMet.nd rfl (Or.inl rfl))
        (fun _ _ _ _ _ => pts_one (pt_cmp (pc_din (hu_of hr) (pv 2) (pv 0)))) (fun _ _ _ _ _ => pv 2))), ?_⟩
    obtain ⟨v, hv, hd⟩ := hkv.get (kd_get hn hm)
    cases hd with
    | @tup b xs _ hb hx =>
    cases hx with
    | cons hf hx =>
    rename_i vf xs
    cases hx with
    | cons ht' hx =>
    rename_i vt xs
    cases hx
    cases ht' with
    | @tup c xs _ hc hx =>
    show tLc2 _ _ _ _ _ _ _ _ _ _ _ _
    have key := el_lc2 (K := K) (tl := tOp (rIxT K) (tDGet (tVar 0) (tVar 1)) (tC (.int 1))) (i0 := 3) (i1 := 2) (vs := [3, 2]) (tt := tB (tDIn (tVar 2) (tVar 0))) (te := tVar 2) (σ := [some (.ref a), some (.str x), none, none]) (H := H) (a := c) (xs := xs) (rows := r.2.map fun d => d.map V.str) (keep := fun y => match y with | .str z => decide (z ∈ kn ks) | _ => false)
      (fun Q q => ev_dget (k := .inr x) (ev_tv rfl) (fun _ _ => ev_tv rfl) ha hv _ fun H1 e1 => ⟨b, [vf, .ref c], 1, .ref c, rfl, rfl, SqT.of (e1 _ _ hb), atI_nat (by rfl), q H1 e1⟩) hc
      (fun i y hy => by
        obtain ⟨d, h1, h2⟩ := hx.getV hy
        rw [List.getElem?_map] at h1
        obtain ⟨dr, h3, rfl⟩ := Option.map_eq_some_iff.mp h1
        cases h2 with
        | @tup e zs _ he hz =>
        have ez := Dts.of_strs hz
        subst ez
        exact ⟨e, _, rfl, by rw [List.getElem?_map, h3]; rfl, he⟩)
      (by rw [hx.length, List.length_map, List.length_map]) (by rw [← List.map_flatten, List.length_map]; omega) (fun _ => rfl) (fun _ _ => rfl) (fun _ => rfl)
      (fun y z H' hz e => by
        obtain ⟨ys, h1, h2⟩ := hz
        obtain ⟨dr, h3, rfl⟩ := List.mem_map.mp h1
        obtain ⟨t, h4, rfl⟩ := List.mem_map.mp h2
        exact evb_is (EvB.of (ev_inD (k := .inr t) (ev_tv rfl) (fun _ _ => ev_tv rfl) (e _ _ ha))) (kd_isSome hkv hn))
      (fun y z H' hz e => ev_tv rfl)
    refine key _ fun p H' hp e hl => k p H' hp e ?_
    rw [hl, ← List.map_flatten, map_str_filter _ _ _ fun _ => rfl]
    rfl
end
end Bc

namespace Bc
open PySem L2 PyProof.Rows StX
theorem nodup_len : ∀ {l m : List Str}, l.Nodup → (∀ x ∈ l, x ∈ m) → l.length ≤ m.length
  | [], _, _, _ => by exact Nat.zero_le _
  | a :: l, m, hn, hs => by
    obtain ⟨h1, h2⟩ := List.nodup_cons.mp hn; have hm := hs a List.mem_cons_self
    have ih := nodup_len (l := l) (m := m.erase a) h2 fun x hx => by
      have q := hs x (List.mem_cons_of_mem _ hx)
      have ne : x ≠ a := fun e => h1 (e ▸ hx)
      exact (List.mem_erase_of_ne ne).mpr q
    have e := List.length_erase_of_mem hm
    have pos : 0 < m.length := List.length_pos_of_mem hm
    rw [List.length_cons]
    omega
/-- a dict with just these keys -/
def Led (H : Hp) (d : Addr) (zs : List Str) : Prop := ∃ L : List (Key × V), H d = some (.dK L) ∧ L.map (·.1) = zs.map Sum.inr
theorem led_mem {zs : List Str} {x : Str} : ∀ {L : List (Key × V)}, L.map (·.1) = zs.map Sum.inr → (valV L (.inr x)).isSome = decide (x ∈ zs) := by
  induction zs with
  | nil =>
    intro L h
    have : L = [] := List.map_eq_nil_iff.mp h
    subst this
    rfl
  | cons z r ih =>
    intro L h
    cases L with
    | nil => cases h
    | cons p t =>
      obtain ⟨k, v⟩ := p
      have h1 : k = Sum.inr z := (List.cons.inj h).1
      have h2 : t.map (·.1) = r.map Sum.inr := (List.cons.inj h).2
      subst h1
      rw [valV_cons]
      by_cases e : z = x
      · subst e
        rw [if_pos rfl]
        simp
      · rw [if_neg fun q => e (Sum.inr.inj q), ih h2]
        have e2 : ¬ x = z := fun q => e q.symm
        simp [e2]
theorem led_put {zs : List Str} {x : Str} {L : List (Key × V)} {v : V} (h : L.map (·.1) = zs.map Sum.inr) (hx : x ∉ zs) : (putK L (.inr x) v).map (·.1) = (zs ++ [x]).map Sum.inr := by
  have e := led_mem (x := x) h
  rw [decide_eq_false hx] at e
  have e2 : valV L (.inr x) = none := by
    cases q : valV L (.inr x) with
    | none => rfl
    | some u =>
      rw [q] at e
      cases e
  rw [putK_new _ e2, List.map_append, List.map_append, h]
  rfl
theorem led_len {zs : List Str} {L : List (Key × V)} (h : L.map (·.1) = zs.map Sum.inr) : L.length = zs.length := by
  have := congrArg List.length h; rw [List.length_map, List.length_map] at this
  exact this
/-- a for over a new list, its turns change other things -/
theorem s_forM {K : PySem.W.Frag} {tl : TE} {j : Nat} {tb : TS} {D : Ends} {σ : L2.St} {H : Hp} {xs : List V} (h : EvL tl σ H xs)
    (k : ∀ p H1, H p = none → Same H H1 → H1 p = some (.lst xs) → ∃ Pv : Nat → L2.St → Hp → Prop, Pv 0 σ H1 ∧ (∀ i σ' H', Pv i σ' H' → H' p = some (.lst xs)) ∧
      (∀ i x σ' H', xs[i]? = some x → Pv i σ' H' → tb { D with nx := Pv (i + 1), ct := Pv (i + 1), bk := D.nx } (σ'.set j (some x)) H') ∧ ∀ σ' H', Pv xs.length σ' H' → D.nx σ' H') : tFor (iList K tl) (gName j) tb D σ H := by
  refine h _ fun p H1 hp e1 hx => ⟨p, rfl, ⟨xs, SqL.of hx⟩, ?_⟩
  obtain ⟨Pv, h0, hG, hs, hd⟩ := k p H1 hp e1 hx
  exact for_it (walk_list (K := K) (a := p) (xs := xs)) Pv h0 (fun i σ' H' _ q => SqL.of (hG i σ' H' q)) (fun i x σ' H2 H3 hi q y => by
    obtain ⟨rfl, hy⟩ := y
    exact hs i x σ' _ hy q) hd
theorem q_forM {K : PySem.W.Frag} {tl : TE} {j : Nat} {tb u : TS} {D : Ends} {σ : L2.St} {H : Hp} {xs : List V} (h : EvL tl σ H xs)
    (k : ∀ p H1, H p = none → Same H H1 → H1 p = some (.lst xs) → ∃ Pv : Nat → L2.St → Hp → Prop, Pv 0 σ H1 ∧ (∀ i σ' H', Pv i σ' H' → H' p = some (.lst xs)) ∧
      (∀ i x σ' H', xs[i]? = some x → Pv i σ' H' → tb { D with nx := Pv (i + 1), ct := Pv (i + 1), bk := u D } (σ'.set j (some x)) H') ∧ ∀ σ' H', Pv xs.length σ' H' → u D σ' H') : tSeq (tFor (iList K tl) (gName j) tb) u D σ H := s_forM (D := { D with nx := u D }) h k
/-- the same over a list that stands in a slot -/
theorem q_forV {K : PySem.W.Frag} {tl : TE} {j : Nat} {tb u : TS} {D : Ends} {σ : L2.St} {H : Hp} {p : Addr} {xs : List V} (h : Ev tl σ H (.ref p)) (hx : H p = some (.lst xs)) (Pv : Nat → L2.St → Hp → Prop) (h0 : ∀ H', Same H H' → Pv 0 σ H') (hG : ∀ i σ' H', Pv i σ' H' → H' p = some (.lst xs))
      (hs : ∀ i x σ' H', xs[i]? = some x → Pv i σ' H' → tb { D with nx := Pv (i + 1), ct := Pv (i + 1), bk := u D } (σ'.set j (some x)) H') (hd : ∀ σ' H', Pv xs.length σ' H' → u D σ' H') : tSeq (tFor (iList K tl) (gName j) tb) u D σ H :=
  h _ fun H1 e1 => ⟨p, rfl, ⟨xs, SqL.of (e1 _ _ hx)⟩, for_it (walk_list (K := K) (a := p) (xs := xs)) Pv (h0 H1 e1) (fun i σ' H' _ q => SqL.of (hG i σ' H' q)) (fun i x σ' H2 H3 hi q y => by
    obtain ⟨rfl, hy⟩ := y
    exact hs i x σ' _ hy q) hd⟩
/-- while xs: .., the list in a slot -/
theorem q_whileL {K : PySem.W.Frag} {i : Nat} {tb u : TS} {D : Ends} {σ : L2.St} {H : Hp} (W : Nat → L2.St → Hp → Prop) (m0 : Nat) (h0 : W m0 σ H)
    (hs : ∀ m σ' H', W m σ' H' → ∃ q xs, σ'[i]? = some (some (.ref q)) ∧ H' q = some (.lst xs) ∧ (xs ≠ [] → tb { D with nx := fun σ2 H2 => ∃ m', m' < m ∧ W m' σ2 H2, ct := fun σ2 H2 => ∃ m', m' < m ∧ W m' σ2 H2, bk := u D } σ' H') ∧ (xs = [] → u D σ' H')) :
    tSeq (tWhile (fun σ H Q => tVar i σ H fun x H' => ∃ k, TruV K x H' k ∧ Q k H') tb) u D σ H := by
  refine ⟨W, ⟨m0, h0⟩, fun m σ' H' hw => ?_⟩
  obtain ⟨q, xs, h1, h2, h3, h4⟩ := hs m σ' H' hw
  refine ⟨.ref q, h1, !xs.isEmpty, .inl ⟨xs, SqL.of h2, rfl⟩, ?_⟩
  cases xs with
  | nil => exact iteF (h4 rfl)
  | cons x r => exact iteT ⟨fun σ2 H2 => ∃ m', m' < m ∧ W m' σ2 H2, fun _ _ z => z, h3 fun z => nomatch z⟩
theorem s_app {K : PySem.W.Frag} {ta te : TE} {D : Ends} {σ : L2.St} {H : Hp} {l : Addr} {xs : List V} {v : V} (hl : H l = some (.lst xs)) (ha : Ev ta σ H (.ref l)) (hv : ∀ H', Same H H' → Ev te σ H' v) (hz : xs.length < 100000)
    (k : ∀ H', Same H H' → D.nx σ (upd H' l (.lst (xs ++ [v])))) : tDrop (tBM K "list" rAppend ta (tCons te tNil)) D σ H :=
  ha _ fun H1 e1 => ⟨.inl ⟨rfl, xs, SqL.of (e1 _ _ hl)⟩, hv H1 e1 _ fun H2 e2 => ⟨l, xs, v, rfl, rfl, e2 _ _ (e1 _ _ hl), szl hz, k H2 (e1.trans e2)⟩⟩
theorem el_nil {σ : L2.St} {H : Hp} : EvL (tLst tNil) σ H [] := fun Q q => ⟨Nat.zero_le _, fun p hp => q p _ hp (same_upd hp) upd_same⟩
theorem el_call {sp : Sp} {E : XK} {t : TA} {σ : L2.St} {H : Hp} {vs xs : List V} (h : EvA t σ H vs) (k : ∀ H', Same H H' → ∀ Q : VK, (∀ p H2, H' p = none → Same H' H2 → H2 p = some (.lst xs) → Q (.ref p) H2) → sp (vs ++ []) H' Q E) : EvL (tCall sp [] E t) σ H xs := fun Q q =>
  h _ fun H' e => k H' e Q fun p H2 hp e2 hx => q p H2 (e.free hp) (e.trans e2) hx
abbrev inn (is : Ins) : List Str := is.map fun p => p.1
/-- what is met is closed -/
structure Closed (ks : Knots) (is : Ins) (zs : List Str) : Prop where
  start : ∀ p ∈ is, p.2 ∈ zs
  next : ∀ x r, (x, r) ∈ ks → x ∈ zs → ∀ t ∈ succ ks r, t ∈ zs
/-- in all that is closed -/
def Reach (ks : Knots) (is : Ins) (z : Str) : Prop := ∀ zs, Closed ks is zs → z ∈ zs
abbrev SubR (ks : Knots) (is : Ins) (zs : List Str) : Prop := ∀ z ∈ zs, z ∈ kn ks ∧ Reach ks is z
theorem SubR.kn {ks : Knots} {is : Ins} {zs : List Str} (h : SubR ks is zs) : ∀ z ∈ zs, z ∈ Bc.kn ks := fun z m => (h z m).1
structure NetIn (H : Hp) (a b : Addr) (kv iv : List (Key × V)) (ks : Knots) (is : Ins) : Prop where
  ne : a ≠ b
  ha : H a = some (.dK kv)
  hkv : Dk H kv (kd ks)
  kn : (kn ks).Nodup
  klen : ks.length < 60
  turns : ∀ p ∈ ks, p.2.2.flatten.length ≤ 1000
  hb : H b = some (.dK iv)
  hiv : Dk H iv (id_ is)
  inn : (inn is).Nodup
  ilen : is.length < 60
  leads : ∀ p ∈ is, p.2 ∈ Bc.kn ks
theorem NetIn.go {H H' : Hp} {a b : Addr} {kv iv : List (Key × V)} {ks : Knots} {is : Ins} (n : NetIn H a b kv iv ks is) (e : Same H H') : NetIn H' a b kv iv ks is :=
  ⟨n.ne, e _ _ n.ha, n.hkv.go e, n.kn, n.klen, n.turns, e _ _ n.hb, n.hiv.go e, n.inn, n.ilen, n.leads⟩
section
variable {P : Program} {w : World} {K : PySem.W.Frag} {mg : Str → Option Value} {base : Heap} {ad : Ad}
def spLeaders : Sp := fun vs H Q _ => ∃ (a b : Addr) (kv iv : List (Key × V)) (ks : Knots) (is : Ins), vs = [.ref a, .ref b] ∧ NetIn H a b kv iv ks is ∧
  ∀ p H' zs, H p = none → Same H H' → Led H' p zs → Closed ks is zs → (∀ z ∈ zs, Reach ks is z) → Q (.ref p) H'
theorem scLeaders : FnScope ["knots", "inlets", "led", "inlet", "near", "far", "knot", "target"] ["knots", "inlets"] (defScope sLeaders) := ⟨rfl, rfl, rfl, by decide +kernel, rfl, by decide +kernel, by decide +kernel⟩
theorem id_get {is : Ins} {x : Str} (hn : (inn is).Nodup) : ∀ {z : Str}, (x, z) ∈ is → (id_ is).lookup x = some (.str z) := by
  induction is with
  | nil => intro z h; cases h
  | cons p t ih =>
    intro z h
    obtain ⟨h1, h2⟩ := List.nodup_cons.mp (show (p.1 :: t.map (·.1)).Nodup from hn)
    show List.lookup x ((p.1, PyData.str p.2) :: id_ t) = _
    rw [List.lookup_cons]; rcases List.mem_cons.mp h with e | m
    · subst e
      simp
    · have q : (x == p.1) = false := by
        simp only [beq_eq_false_iff_ne]
        intro e
        exact h1 (List.mem_map.mpr ⟨(x, z), m, e⟩)
      rw [q]
      exact ih h2 m
theorem kn_one {ks : Knots} {x : Str} {r r' : Rows} (hn : (kn ks).Nodup) (h : (x, r) ∈ ks) (h' : (x, r') ∈ ks) : r = r' := by
  induction ks with
  | nil => cases h
  | cons p t ih =>
    obtain ⟨h1, h2⟩ := List.nodup_cons.mp (show (p.1 :: kn t).Nodup from hn); rcases List.mem_cons.mp h with e | m
    · rcases List.mem_cons.mp h' with e' | m'
      · rw [← e'] at e
        exact (Prod.mk.inj e).2
      · exact absurd (List.mem_map.mpr ⟨_, m', by rw [← e]⟩) h1
    · rcases List.mem_cons.mp h' with e' | m'
      · exact absurd (List.mem_map.mpr ⟨_, m, by rw [← e']⟩) h1
      · exact ih h2 m m'
theorem Led.go {H H' : Hp} {d : Addr} {zs : List Str} (h : Led H d zs) (e : Same H H') : Led H' d zs := let ⟨L, h1, h2⟩ := h; ⟨L, e _ _ h1, h2⟩
theorem Led.upd {H : Hp} {d p : Addr} {zs : List Str} {o : HO} (h : Led H d zs) (ne : d ≠ p) : Led (L2.upd H p o) d zs := let ⟨L, h1, h2⟩ := h; ⟨L, by rw [upd_ne ne]; exact h1, h2⟩
theorem ok_leaders (T : Tx K mg ad) : FnOk P w K mg base CX0 3 ad.leaders ad.dLeaders ["knots", "inlets"] spLeaders := by
  have GM : FnOk P w K mg base CX0 2 ad.met ad.dMet ["knots", "knot"] spMet := ok_met T
  have bM := T.fMet.binds (ps := ["knots", "knot"]) fun _ _ _ _ _ _ us hl => match us, hl with | [_, _], _ => rfl
  refine T.fLeaders.ok scLeaders (fun vs H Q E h => ?_) (fun cdv A outer s H vs Q E hr h => ?_)
  · obtain ⟨a, b, kv, iv, ks, is, rfl, _⟩ := h
    rfl
  · obtain ⟨a, b, kv, iv, ks, is, rfl, N, k⟩ := h
    refine ⟨_, pss_cons (ps_set (i := 2) scLeaders.nd rfl (.inl rfl) pe_dnewK)
      (pss_cons (ps_for PassesOwn.never rfl (pi_list (pe_callB (call_sortedD rfl) (by rfl) T.sorted b_sorted (pa_cons (pv 1) pa_nil))) (pg_name (i := 3) scLeaders.nd rfl (.inl rfl)) (pss_one (ps_expr (pe_dsetd (pv 2) (pe_dget (hu_of hr) (pv 1) (pv 3) (fun _ _ => rfl)) (pv 3) ⟨rfl, rfl, rfl, rfl⟩))))
      (pss_cons (ps_set (i := 4) scLeaders.nd rfl (.inl rfl) (pe_callTy (call_listD rfl) (by rfl) T.list b_list (pa_cons (pv 2) pa_nil)))
      (pss_cons (ps_while PassesOwn.never (pt_truth (pv 4) (by intro _; rfl))
        (pss_cons (ps_set (i := 5) scLeaders.nd rfl (.inl rfl) (pe_lst pa_nil))
        (pss_cons (ps_for PassesOwn.never rfl (pi_list (pv 4)) (pg_name (i := 6) scLeaders.nd rfl (.inl rfl))
          (pss_one (ps_for PassesOwn.never rfl (pi_list (pe_call GM hr (by rfl) T.gMet T.fMet.kp bM .nil pass0 (pa_cons (pv 0) (pa_cons (pv 6) pa_nil)))) (pg_name (i := 7) scLeaders.nd rfl (.inl rfl))
            (pss_one (ps_if (pt_cmp (pc_dnotin (hu_of hr) (pv 7) (pv 2))) (pss_cons (ps_dput (hu_of hr) (pv 2) (pv 7) (pv 6) rfl)
              (pss_one (ps_expr (pe_bm PySem.F.plainAttrs_list PySem.F.slot_list_append PySem.F.type_list_append mt_append (pv 5) (pa_cons (pv 7) pa_nil))))) pss_nil)))))
        (pss_one (ps_set (i := 4) scLeaders.nd rfl (.inl rfl) (pv 5))))))
      (pss_one (ps_ret (pv 2)))))), ?_⟩
    have hik : iv.map (·.1) = (inn is).map Sum.inr := by rw [N.hiv.keys, id_keys]
    refine q_dnew fun d hd => ?_
    have sd : Same H (upd H d (.dK [])) := same_upd hd
    refine q_forM (K := K) (el_sortedD (ev_tv rfl) (sd _ _ N.hb) hik (by rw [List.length_map]; have := N.ilen; omega)) fun p1 H1 hp1n e1 hp1 => ?_
    have ne1 : d ≠ p1 := ne_of (e1 _ _ upd_same) hp1 (by intro z; cases z)
    refine ⟨fun i σ H' => ∃ zs x, σ = [some (.ref a), some (.ref b), some (.ref d), x, none, none, none, none] ∧ Same H H' ∧ H' p1 = some (.lst ((srt (inn is)).map V.str)) ∧ Led H' d zs ∧ zs.Nodup ∧ SubR ks is zs ∧ ∀ p ∈ is, p.1 ∈ (srt (inn is)).take i → p.2 ∈ zs,
      ⟨[], none, rfl, sd.trans e1, hp1, ⟨[], e1 _ _ upd_same, rfl⟩, List.nodup_nil, (fun _ h => nomatch h), (fun _ _ h => nomatch h)⟩, fun i σ' H' ⟨_, _, _, _, q, _⟩ => q, fun i x σ' H' hx p => ?_, fun σ' H' p => ?_⟩
    · obtain ⟨zs, x0, rfl, e2, hl, hled, hnd, hsub, hdone⟩ := p
      rw [List.getElem?_map] at hx
      obtain ⟨z, hz, rfl⟩ := Option.map_eq_some_iff.mp hx
      have hm : z ∈ inn is := (srt_perm _).mem_iff.mp (List.mem_of_getElem? hz)
      obtain ⟨⟨z', y⟩, hm2, rfl⟩ := List.mem_map.mp hm
      obtain ⟨v, hv, hdt⟩ := N.hiv.get (id_get N.inn hm2)
      cases hdt
      obtain ⟨L, hL, hLk⟩ := hled
      have hy := N.leads _ hm2
      have hlen := nodup_len hnd (SubR.kn hsub)
      have kl : (kn ks).length = ks.length := List.length_map _
      have hk := N.klen
      have one : ∀ p ∈ is, p.1 ∈ (srt (inn is)).take (i + 1) → p.1 ∈ (srt (inn is)).take i ∨ p = (z', y) := fun p hp hq => by
        rw [take_snoc hz] at hq
        rcases List.mem_append.mp hq with q | q
        · exact .inl q
        · refine .inr ?_
          have e : p.1 = z' := List.mem_singleton.mp q
          obtain ⟨p1', p2'⟩ := p
          have e' : p1' = z' := e
          subst e'
          have q1 := id_get N.inn hp
          rw [id_get N.inn hm2] at q1
          injection q1 with q1
          injection q1 with q1
          rw [q1]
      refine ⟨_, rfl, d, rfl, .inl ⟨L, .inl hL⟩, _, rfl, _, rfl, b, _, rfl, by have z := DGet.k (k := .inr z') (e2 _ _ N.hb); rw [hv] at z; exact z, _, rfl, L, .inr y, hL, rfl, szl (by rw [led_len hLk]; omega), fun w hw => ?_, fun hw => ?_⟩
      · have hyz : y ∈ zs := by
          have q := led_mem (x := y) hLk
          rw [hw] at q
          exact of_decide_eq_true q.symm
        exact ⟨zs, _, rfl, e2, hl, ⟨L, hL, hLk⟩, hnd, hsub, fun p hp hq => (one p hp hq).elim (fun q => hdone p hp q) fun q => by rw [q]; exact hyz⟩
      · have hyz : y ∉ zs := fun m => by
          have q := led_mem (x := y) hLk
          rw [hw, decide_eq_true m] at q
          cases q
        refine ⟨zs ++ [y], _, rfl, Same.mut e2 hd, by rw [upd_ne ne1.symm]; exact hl, ⟨_, upd_same, led_put hLk hyz⟩, nd_snoc hnd hyz, fun z hz => ?_, fun p hp hq => (one p hp hq).elim (fun q => List.mem_append_left _ (hdone p hp q)) fun q => by rw [q]; exact List.mem_append_right _ (List.mem_singleton.mpr rfl)⟩
        rcases List.mem_append.mp hz with q | q
        · exact hsub z q
        · rw [List.mem_singleton.mp q]
          exact ⟨hy, fun zs' hc => hc.start _ hm2⟩
    · obtain ⟨zs0, x0, rfl, e2, _, hled0, hnd0, hsub0, hdone0⟩ := p
      have start0 : ∀ p ∈ is, p.2 ∈ zs0 := fun p hp => hdone0 p hp (by
        rw [List.length_map, List.take_length]
        exact (srt_perm _).mem_iff.mpr (List.mem_map.mpr ⟨p, hp, rfl⟩))
      obtain ⟨L0, hL0, hLk0⟩ := hled0
      -- near = list(led)
      refine ⟨_, rfl, d, L0, rfl, .inl hL0, fun nr hnr => ?_⟩
      have en : (L0.map fun kv : Key × V => kV kv.1) = zs0.map V.str := by
        have q := congrArg (List.map kV) hLk0
        rw [List.map_map, List.map_map] at q
        exact q
      rw [en]
      have nr0 : d ≠ nr := ne_of_none hL0 hnr
      have kl : (kn ks).length = ks.length := List.length_map _
      have hk := N.klen
      refine q_whileL (K := K) (i := 4) (fun m σ H' => ∃ zs ns nr x3 x5 x6 x7, σ = [some (.ref a), some (.ref b), some (.ref d), x3, some (.ref nr), x5, x6, x7] ∧ Same H H' ∧ Led H' d zs ∧ zs.Nodup ∧ SubR ks is zs ∧ (∀ p ∈ is, p.2 ∈ zs) ∧ H' nr = some (.lst (ns.map V.str)) ∧
          (∀ x ∈ ns, x ∈ zs) ∧ (∀ x r, (x, r) ∈ ks → x ∈ zs → x ∉ ns → ∀ t ∈ succ ks r, t ∈ zs) ∧ m = 2 * ((kn ks).length - zs.length) + (if ns = [] then 0 else 1))
        _ ⟨zs0, zs0, nr, _, none, none, none, rfl, e2.trans (same_upd hnr), ⟨L0, by rw [upd_ne nr0]; exact hL0, hLk0⟩, hnd0, hsub0, start0, upd_same, fun _ h => h, fun x r _ h1 h2 => absurd h1 h2, rfl⟩ (fun m σ' H' hw => ?_)
      obtain ⟨zs, ns, nr, x3, x5, x6, x7, rfl, e4, hled, hnd, hsub, hst, hnl, hnz, hcl, rfl⟩ := hw
      refine ⟨nr, ns.map V.str, rfl, hnl, fun hne => ?_, fun hem => ?_⟩
      · have hne' : ns ≠ [] := fun z => hne (by rw [z]; rfl)
        refine q_asgL el_nil fun f H5 hf e5 hfl => ?_
        have hnl5 := e5 _ _ hnl
        have nf : f ≠ nr := (ne_of_none hnl hf).symm
        obtain ⟨L, hL, hLk⟩ := hled
        have df : d ≠ f := ne_of_none hL hf
        have dn : d ≠ nr := ne_of hL hnl (by intro z; cases z)
        have Hf : H f = none := e4.free hf
        have Hd : H d = none := hd
        refine q_forV (K := K) (p := nr) (xs := ns.map V.str) (ev_tv rfl) hnl5 (fun j σ H' => ∃ fs x6 x7, σ = [some (.ref a), some (.ref b), some (.ref d), x3, some (.ref nr), some (.ref f), x6, x7] ∧ Same H H' ∧ Led H' d (zs ++ fs) ∧ (zs ++ fs).Nodup ∧ SubR ks is (zs ++ fs) ∧ H' nr = some (.lst (ns.map V.str)) ∧ H' f = some (.lst (fs.map V.str)) ∧
            ∀ x ∈ ns.take j, ∀ r, (x, r) ∈ ks → ∀ t ∈ succ ks r, t ∈ zs ++ fs)
          (fun H6 e6 => ⟨[], x6, x7, rfl, (e4.trans e5).trans e6, ⟨L, e6 _ _ (e5 _ _ hL), by rw [List.append_nil]; exact hLk⟩, by rw [List.append_nil]; exact hnd, by rw [List.append_nil]; exact hsub, e6 _ _ hnl5, e6 _ _ hfl, fun _ h => nomatch h⟩) (fun _ _ _ ⟨_, _, _, _, _, _, _, _, q, _⟩ => q) (fun j x σ2 H6 hx p => ?_) (fun σ2 H6 p => ?_)
        · obtain ⟨fs, y6, y7, rfl, e6, hled6, hnd6, hsub6, hn6, hf6, hdone6⟩ := p
          rw [List.getElem?_map] at hx
          obtain ⟨z, hz, rfl⟩ := Option.map_eq_some_iff.mp hx
          have hzn := List.mem_of_getElem? hz
          have hzr := (hsub z (hnz z hzn)).2
          have hzk := (hsub z (hnz z hzn)).1
          obtain ⟨⟨z', r⟩, hm, rfl⟩ := List.mem_map.mp hzk
          have N6 := N.go e6
          refine s_forM (K := K) (xs := (succ ks r).map V.str) (el_call (ea_cons (ev_tv rfl) fun _ _ => ea_cons (ev_tv rfl) fun _ _ => ea_nil) fun H7 e7 Q7 q7 => ⟨a, z', kv, ks, r, rfl, e7 _ _ N6.ha, N6.hkv.go e7, N.kn, hm, N.turns _ hm, q7⟩) fun p H7 hp e7 hpl => ?_
          have pd : p ≠ d := by
            obtain ⟨L6, hL6, _⟩ := hled6
            exact (ne_of_none hL6 hp).symm
          have pf : p ≠ f := (ne_of_none hf6 hp).symm
          refine ⟨fun i σ H' => ∃ fs x7, σ = [some (.ref a), some (.ref b), some (.ref d), x3, some (.ref nr), some (.ref f), some (.str z'), x7] ∧ Same H H' ∧ Led H' d (zs ++ fs) ∧ (zs ++ fs).Nodup ∧ SubR ks is (zs ++ fs) ∧ H' nr = some (.lst (ns.map V.str)) ∧ H' f = some (.lst (fs.map V.str)) ∧
            (∀ x ∈ ns.take j, ∀ r, (x, r) ∈ ks → ∀ t ∈ succ ks r, t ∈ zs ++ fs) ∧ H' p = some (.lst ((succ ks r).map V.str)) ∧ ∀ t ∈ (succ ks r).take i, t ∈ zs ++ fs,
            ⟨fs, y7, rfl, e6.trans e7, hled6.go e7, hnd6, hsub6, e7 _ _ hn6, e7 _ _ hf6, hdone6, hpl, (fun _ h => nomatch h)⟩, (fun _ _ _ ⟨_, _, _, _, _, _, _, _, _, _, q, _⟩ => q), fun i t σ3 H8 ht q => ?_, fun σ3 H8 q => ?_⟩
          · obtain ⟨gs, w7, rfl, e8, hled8, hnd8, hsub8, hn8, hf8, hdone8, hp8, hsofar⟩ := q
            rw [List.getElem?_map] at ht
            obtain ⟨t', ht', rfl⟩ := Option.map_eq_some_iff.mp ht
            have htk : t' ∈ kn ks := of_decide_eq_true (List.mem_filter.mp (List.mem_of_getElem? ht')).2
            obtain ⟨L8, hL8, hLk8⟩ := hled8
            have test : ∀ H9, Same H8 H9 → EvB (tB (tDNotIn (tVar 7) (tVar 2))) [some (.ref a), some (.ref b), some (.ref d), x3, some (.ref nr), some (.ref f), some (.str z'), some (.str t')] H9 (!decide (t' ∈ zs ++ gs)) := fun H9 e9 => evb_is (EvB.of (ev_notInD (k := .inr t') (ev_tv rfl) (fun _ _ => ev_tv rfl) (e9 _ _ hL8))) (by rw [led_mem hLk8])
            have upto : ∀ ws : List Str, (∀ x ∈ zs ++ gs, x ∈ ws) → t' ∈ ws → ∀ t ∈ (succ ks r).take (i + 1), t ∈ ws := fun ws h1 h2 t h => by
              rw [take_snoc ht'] at h; rcases List.mem_append.mp h with h | h
              · exact h1 t (hsofar t h)
              · rw [List.mem_singleton.mp h]
                exact h2
            by_cases hin : t' ∈ zs ++ gs
            · refine s_no (evb_is (test H8 (Same.refl _)) (by rw [decide_eq_true hin]; rfl)) fun H9 e9 => ?_
              exact ⟨gs, _, rfl, e8.trans e9, ⟨L8, e9 _ _ hL8, hLk8⟩, hnd8, hsub8, e9 _ _ hn8, e9 _ _ hf8, hdone8, e9 _ _ hp8, upto _ (fun _ h => h) hin⟩
            · have hl8 : L8.length ≤ ks.length := by
                rw [led_len hLk8, ← kl]
                exact nodup_len hnd8 (SubR.kn hsub8)
              refine if_yes (evb_is (test H8 (Same.refl _)) (by rw [decide_eq_false hin]; rfl)) fun H9 e9 => ?_
              refine q_dput (k := .inr t') (v := .str z') (ev_tv rfl) (fun _ _ => ev_tv rfl) (fun _ _ => ev_tv rfl) (e9 _ _ hL8) (by omega) fun H10 e10 => ?_
              have e810 := e9.trans e10
              have hgl : gs.length ≤ ks.length := by
                have q1 := nodup_len hnd8 (SubR.kn hsub8)
                rw [List.length_append] at q1
                omega
              refine s_app (l := f) (xs := gs.map V.str) (v := .str t') (by rw [upd_ne df.symm]; exact e810 _ _ hf8) (ev_tv rfl) (fun _ _ => ev_tv rfl) (by rw [List.length_map]; omega) fun H11 e11 => ?_
              have eA : zs ++ (gs ++ [t']) = (zs ++ gs) ++ [t'] := (List.append_assoc _ _ _).symm
              have hput := led_put (v := V.str z') hLk8 hin
              have toH : Same H (upd H11 f (.lst (gs.map V.str ++ [V.str t']))) := Same.mut ((Same.mut (e8.trans e810) Hd).trans e11) Hf
              refine ⟨gs ++ [t'], _, rfl, toH, ⟨_, by rw [upd_ne df]; exact e11 _ _ upd_same, by rw [eA]; exact hput⟩, by rw [eA]; exact nd_snoc hnd8 hin, fun z hz => ?_, ?_, by rw [upd_same, List.map_append]; rfl, fun x hx r' hr' t ht => ?_, ?_, ?_⟩
              · rw [eA] at hz
                rcases List.mem_append.mp hz with q | q
                · exact hsub8 z q
                · rw [List.mem_singleton.mp q]
                  exact ⟨htk, fun zs' hc => hc.next _ _ hm (hzr zs' hc) _ (List.mem_of_getElem? ht')⟩
              · rw [upd_ne nf.symm]
                exact e11 _ _ (by rw [upd_ne dn.symm]; exact e810 _ _ hn8)
              · rw [eA]
                exact List.mem_append_left _ (hdone8 x hx r' hr' t ht)
              · rw [upd_ne pf]
                exact e11 _ _ (by rw [upd_ne pd]; exact e810 _ _ hp8)
              · rw [eA]
                exact upto _ (fun _ h => List.mem_append_left _ h) (List.mem_append_right _ (List.mem_singleton.mpr rfl))
          · obtain ⟨gs, w7, rfl, e8, hled8, hnd8, hsub8, hn8, hf8, hdone8, hp8, hsofar⟩ := q
            rw [List.length_map, List.take_length] at hsofar
            refine ⟨gs, _, w7, rfl, e8, hled8, hnd8, hsub8, hn8, hf8, fun x hx r' hr' t ht => ?_⟩
            rw [take_snoc hz] at hx; rcases List.mem_append.mp hx with q | q
            · exact hdone8 x q r' hr' t ht
            · have e : x = z' := List.mem_singleton.mp q
              subst e
              have es := kn_one N.kn hr' hm
              rw [es] at ht
              exact hsofar t ht
        · obtain ⟨fs, y6, y7, rfl, e6, hled6, hnd6, hsub6, hn6, hf6, hdone6⟩ := p
          rw [List.length_map, List.take_length] at hdone6
          refine ⟨_, rfl, ?_⟩
          have q1 := nodup_len hnd6 (SubR.kn hsub6)
          rw [List.length_append] at q1
          refine ⟨_, ?_, zs ++ fs, fs, f, _, _, _, _, rfl, e6, hled6, hnd6, hsub6, fun p hp => List.mem_append_left _ (hst p hp), hf6, fun x hx => List.mem_append_right _ hx, fun x r hxr hx hnx t ht => ?_, rfl⟩
          · rw [if_neg hne', List.length_append]
            by_cases hfs : fs = []
            · rw [if_pos hfs]
              omega
            · rw [if_neg hfs]
              have : 0 < fs.length := List.length_pos_iff.mpr hfs
              omega
          · have hxz : x ∈ zs := (List.mem_append.mp hx).resolve_right hnx
            by_cases hxn : x ∈ ns
            · exact hdone6 x hxn r hxr t ht
            · exact List.mem_append_left _ (hcl x r hxr hxz hxn t ht)
      · have hns : ns = [] := List.map_eq_nil_iff.mp hem
        subst hns
        refine s_ret (ev_tv rfl) fun H5 e5 => k d H5 zs hd (e4.trans e5) (hled.go e5) ⟨hst, fun x r hxr hx t ht => hcl x r hxr hx (fun z => nomatch z) t ht⟩ fun z h => (hsub z h).2
theorem q_asgR {te : TE} {u : TS} {D : Ends} {σ : L2.St} {H : Hp} {i : Nat} (R : V → Hp → Prop) (h : ∀ Q : VK, (∀ v H', R v H' → Q v H') → te σ H Q) (k : ∀ v H', R v H' → u D (σ.set i (some v)) H') : tSeq (tAsg te (gName i)) u D σ H := h _ k
end
end Bc

namespace Bc
open PySem L2 PyProof.Rows StX
section
variable {P : Program} {w : World} {K : PySem.W.Frag} {mg : Str → Option Value} {base : Heap} {ad : Ad}
/-! ### check_met -/
def spChMet (C : Addr) : Sp := fun vs H Q E => ∃ (a b : Addr) (kv iv : List (Key × V)) (ks : Knots) (is : Ins), vs = [.ref a, .ref b] ∧ NetIn H a b kv iv ks is ∧ (∀ z ∈ kn ks, Bn.TellV (.str z)) ∧
  ∀ zs, Closed ks is zs → (∀ z ∈ zs, Reach ks is z) → ((srt (kn ks)).find? (fun z => !decide (z ∈ zs)) = none → ∀ H', Same H H' → Q .non H') ∧ ∀ z, (srt (kn ks)).find? (fun z => !decide (z ∈ zs)) = some z → Raised C (.str z) H E
theorem scChMet : FnScope ["knots", "inlets", "led", "knot"] ["knots", "inlets"] (defScope sChMet) := ⟨rfl, rfl, rfl, by decide +kernel, rfl, by decide +kernel, by decide +kernel⟩
theorem ok_chMet (T : Tb P K mg ad) : FnOk P w K mg base (L2.CX P w) 4 ad.chMet ad.dChMet ["knots", "inlets"] (spChMet ad.cBad) := by
  have GL : FnOk P w K mg base CX0 3 ad.leaders ad.dLeaders ["knots", "inlets"] spLeaders := ok_leaders T.tx
  have bL := T.tx.fLeaders.binds (ps := ["knots", "inlets"]) fun _ _ _ _ _ _ us hl => match us, hl with | [_, _], _ => rfl
  refine T.tx.fChMet.okX scChMet (fun vs H Q E h => ?_) (fun cdv A outer s H vs Q E hr h => ?_)
  · obtain ⟨a, b, kv, iv, ks, is, rfl, _⟩ := h
    rfl
  · obtain ⟨a, b, kv, iv, ks, is, rfl, N, tell, k⟩ := h
    refine ⟨_, pss_cons (ps_set (i := 2) scChMet.nd rfl (.inl rfl) (pe_call GL hr (by rfl) T.tx.gLeaders T.tx.fLeaders.kp bL .nil pass0 (pa_cons (pv 0) (pa_cons (pv 1) pa_nil))))
      (pss_one (ps_for (passes_of rfl) rfl (pi_list (pe_callB (call_sortedD rfl) (by rfl) T.tx.sorted b_sorted (pa_cons (pv 0) pa_nil))) (pg_name (i := 3) scChMet.nd rfl (.inl rfl))
        (pss_one (ps_if (pt_cmp (pc_dnotin (hu_of hr) (pv 3) (pv 2))) (pss_one (Bn.ps_raiseBad rfl (T.at rfl rfl rfl) hr (takes_of rfl rfl rfl rfl) (by exact (pa_cons (pv 3) pa_nil)))) pss_nil)))), ?_⟩
    have hkeys : kv.map (·.1) = (kn ks).map Sum.inr := by rw [N.hkv.keys, kd_keys]
    have kl : (kn ks).length = ks.length := List.length_map _
    refine q_asgR (fun v H' => ∃ d zs, v = .ref d ∧ Same H H' ∧ Led H' d zs ∧ Closed ks is zs ∧ ∀ z ∈ zs, Reach ks is z) (fun Q q => ⟨_, rfl, _, rfl, a, b, kv, iv, ks, is, rfl, N, fun d H1 zs hd e1 hled hcl hrz => q _ _ ⟨d, zs, rfl, e1, hled, hcl, hrz⟩⟩) fun v H1 hv => ?_
    obtain ⟨d, zs, rfl, e1, hled, hcl, hrz⟩ := hv
    obtain ⟨k1, k2⟩ := k zs hcl hrz
    refine s_forN (K := K) (el_sortedD (ev_tv rfl) (e1 _ _ N.ha) hkeys (by have := N.klen; omega)) fun p2 H3 e3 hxs3 => ?_
    refine ⟨fun i σ H' => (∃ x, σ = [some (.ref a), some (.ref b), some (.ref d), x] ∧ Same H3 H') ∧ ((srt (kn ks)).drop i).find? (fun z => !decide (z ∈ zs)) = (srt (kn ks)).find? (fun z => !decide (z ∈ zs)), ⟨⟨none, rfl, Same.refl _⟩, rfl⟩, fun _ _ _ ⟨⟨_, _, q⟩, _⟩ => q, fun i x σ' H' hx p => ?_, fun σ' H' p => ?_⟩
    · obtain ⟨⟨x0, rfl, e4⟩, hf⟩ := p
      rw [List.getElem?_map] at hx
      obtain ⟨z, hz, rfl⟩ := Option.map_eq_some_iff.mp hx
      have hm : z ∈ kn ks := (srt_perm _).mem_iff.mp (List.mem_of_getElem? hz)
      have tz := tell z hm
      obtain ⟨L, hL, hLk⟩ := hled
      have hi : i < (srt (kn ks)).length := (List.getElem?_eq_some_iff.mp hz).1
      rw [List.drop_eq_getElem_cons hi, (List.getElem?_eq_some_iff.mp hz).2] at hf
      have test : EvB (tB (tDNotIn (tVar 3) (tVar 2))) [some (V.ref a), some (.ref b), some (.ref d), some (.str z)] H' (!decide (z ∈ zs)) := evb_is (EvB.of (ev_notInD (k := .inr z) (ev_tv rfl) (fun _ _ => ev_tv rfl) (e4 _ _ (e3 _ _ hL)))) (by rw [led_mem hLk])
      by_cases hin : z ∈ zs
      · rw [List.find?_cons_of_neg (by simp [hin])] at hf
        exact s_no (evb_is test (by simp [hin])) fun H5 e5 => ⟨⟨_, rfl, e4.trans e5⟩, hf⟩
      · rw [List.find?_cons_of_pos (by simp [hin])] at hf
        exact if_yes (evb_is test (by simp [hin])) fun H5 e5 => s_raise (ev_tv rfl) tz ((k2 z hf.symm).go (e1.trans (e3.trans (e4.trans e5))))
    · obtain ⟨⟨x0, rfl, e4⟩, hf⟩ := p
      rw [List.length_map, List.drop_length] at hf
      exact k1 hf.symm H' (e1.trans (e3.trans e4))
end
end Bc

/-! sorted(l), l a list of pairs (text, anything) whose texts differ; sorted of a tuple of texts -/
namespace Bc
open PySem PySem.Spec PyProof.Rows SrtO
/-- a tuple of a text and something -/
def IsSP (h : Heap) (v : Value) (z : Str) : Prop := ∃ a o t u n, v = .ref a ∧ h.get? a = some o ∧ o.cls = .type "tuple" ∧ o.data = .seq #[.str z t, u] n
theorem IsSP.keeps {h h' : Heap} {v : Value} {z : Str} (p : IsSP h v z) (k : ∀ b o, h.get? b = some o → o.cls = .type "tuple" → h'.get? b = some o) : IsSP h' v z := by
  obtain ⟨a, o, t, u, n, e, ho, hc, hd⟩ := p; exact ⟨a, o, t, u, n, e, k _ _ ho hc, hc, hd⟩
theorem firstsS {h : Heap} {k : Value → Str} : ∀ {vs : List Value}, (∀ v ∈ vs, IsSP h v (k v)) → ∃ fs : List Value, PySem.W.KatTups h vs fs ∧ fs.length = vs.length ∧ ∀ f ∈ fs, ∃ x t, f = Value.str x t
  | [], _ => ⟨[], PySem.W.KatTups.nil, rfl, fun _ hm => nomatch hm⟩
  | v :: vs, hp => by
    obtain ⟨fs, h1, h2, h3⟩ := firstsS (vs := vs) fun v' hm => hp v' (List.mem_cons_of_mem _ hm)
    obtain ⟨a, o, t, u, n, e, ho, hc, hd⟩ := hp v (List.mem_cons_self ..)
    subst e
    refine ⟨.str (k (.ref a)) t :: fs, PySem.W.KatTups.cons ho hc hd rfl h1, by rw [List.length_cons, List.length_cons, h2], fun f hm => ?_⟩; rcases List.mem_cons.mp hm with rfl | hm
    · exact ⟨_, t, rfl⟩
    · exact h3 f hm
abbrev ltS (x y : Str) : Bool := ltCps x.cps.toList y.cps.toList
theorem swoS (k : Value → Str) : Swo fun v u => ltS (k v) (k u) := by
  refine ⟨fun x y (h : _ = true) => ?_, fun x y z h1 h2 => ?_⟩
  · cases q : ltS (k y) (k x) with
    | false => rfl
    | true =>
      have := lt_trans h q
      rw [lt_irr] at this
      cases this
  · have a : leS (k x) (k y) = true := by
      show (!ltCps (k y).cps.toList (k x).cps.toList) = true
      have h1' : ltCps (k y).cps.toList (k x).cps.toList = false := h1
      rw [h1']
      rfl
    have b : leS (k y) (k z) = true := by
      show (!ltCps (k z).cps.toList (k y).cps.toList) = true
      have h2' : ltCps (k z).cps.toList (k y).cps.toList = false := h2
      rw [h2']
      rfl
    have c := leS_trans a b
    have c' : (!ltCps (k z).cps.toList (k x).cps.toList) = true := c
    show ltCps (k z).cps.toList (k x).cps.toList = false
    cases q : ltCps (k z).cps.toList (k x).cps.toList with
    | false => rfl
    | true =>
      rw [q] at c'
      cases c'
section
variable {s : Shared} {prog : Program} {w : World} {A : Around} {E : Value → Shared → Prop}
theorem sp_cmp {vs : List Value} {k : Value → Str} (hp : ∀ v ∈ vs, IsSP s.heap v (k v)) (hi : ∀ v ∈ vs, ∀ u ∈ vs, k v = k u → v = u) : Cmp prog w A s (tuples' true) (fun p => p.1 ∈ vs) (lt2 fun v u => ltS (k v) (k u)) := by
  intro p q hm hm'
  have h1 := hp _ hm
  have h2 := hp _ hm'
  have h3 := hi _ hm _ hm'
  show wpAny (model prog w) A (keyLt' (tuples' true) p.1 q.1) (fun r s' => s' = s ∧ r = ltS (k p.1) (k q.1)) (fun _ _ => False) s
  generalize k p.1 = x at h1 h3 ⊢
  generalize k q.1 = x' at h2 h3 ⊢
  obtain ⟨a, o, t, u, n, e, ho, hc, hd⟩ := h1; obtain ⟨a', o', t', u', n', e', ho', hc', hd'⟩ := h2
  rw [e, e'] at h3
  rw [e, e']
  refine PySem.W.kat_lt ho hd ho' hd' ?_; show PySem.W.KatLex prog w A true (decide (2 < 2)) _ [(.str x t, .str x' t'), (u, u')] 0 s
  refine PySem.W.kat_cons (SeqAt.EqAt.str_str x t x' t' prog w _ _ ?_); refine PySem.W.kat_go (fun e1 => ?_) (fun e1 => ?_)
  · have ex : x = x' := beq_iff_eq.mp e1
    have ea := h3 ex
    cases ea
    rw [ho] at ho'
    cases ho'
    rw [hd] at hd'
    have eu : u = u' := by
      injection hd' with q1 q2
      have q3 := congrArg (fun z : Array Value => z[1]?) q1
      simpa using q3
    subst eu
    subst ex
    refine PySem.W.kat_yes (PySem.W.kat_cons (SeqAt.EqAt.same u prog w _ _ ?_))
    refine PySem.W.kat_yes (PySem.W.kat_nil ⟨rfl, ?_⟩)
    show decide (2 < 2) = ltS x x
    rw [show ltS x x = false from lt_irr _]
    rfl
  · have ex : ¬ x = x' := fun w => by simp [w] at e1
    refine PySem.W.kat_no (oneLt_str ⟨rfl, ?_⟩)
    exact (PyProof.Rows.ltCps_eq _ _).symm
theorem sp_sortable {a : Addr} {vs : List Value} {k : Value → Str} (h0 : 0 < vs.length) (hp : ∀ v ∈ vs, IsSP s.heap v (k v)) (hi : ∀ v ∈ vs, ∀ u ∈ vs, k v = k u → v = u) (ha : ∀ o, s.heap.get? a = some o → o.cls ≠ .type "tuple") : SortableO prog w A s a vs fun v u => ltS (k v) (k u) := by
  intro h' keep
  have hp' : ∀ v ∈ vs, IsSP h' v (k v) := fun v hm => (hp v hm).keeps fun b o e c => keep b o (fun z => by subst z; exact ha o e c) e
  obtain ⟨fs, h1, h2, h3⟩ := firstsS hp'
  refine ⟨tuples' true, fun Q E hq => ?_, sp_cmp hp' hi⟩
  refine PySem.W.kat_kind (T := .type "str") h1 (by omega) (fun f hm => ?_) (by rfl) ?_
  · obtain ⟨z, t, rfl⟩ := h3 f hm
    exact PySem.W.Looks.now
  · have e : (Value.type "str" != Value.type "tuple") = true := by first | decide +kernel | rfl | decide
    rw [e]
    exact hq
theorem sorted_sp {l : Addr} {vs : List Value} {k : Value → Str} {Q : Value → Shared → Prop} (hl : s.heap.IsList l vs.toArray) (hz : vs.length ≤ sizeLine) (hp : ∀ v ∈ vs, IsSP s.heap v (k v)) (hi : ∀ v ∈ vs, ∀ u ∈ vs, k v = k u → v = u)
    (h : ∀ (h' : Heap) (d : Addr) (out : List Value), Srtd (fun v u => ltS (k v) (k u)) out → Stb (fun v u => ltS (k v) (k u)) out vs → (∀ b o, s.heap.get? b = some o → h'.get? b = some o) → s.heap.objs.size ≤ d → (∃ n, h'.get? d = some (seqObj "list" out.toArray n)) → Q (.ref d) { s with heap := h' }) : wpAny (model prog w) A (call (.builtin "sorted") [.ref l]) Q E s := by
  refine sorted_ord (swoS k) hl hz (fun h2 h₁ a ha kk => ?_) fun out hs hb => ?_
  · refine sp_sortable (s := { s with heap := h₁ }) (by omega) (fun v hm => (hp v hm).keeps fun b o e _ => (kk b o e).2) hi fun o e => ?_
    have e' : some o = some (seqObj "list" vs.toArray 0) := e.symm.trans ha; cases e'
    intro c; exact absurd (Value.type.inj c) (by decide)
  · exact h _ _ out hs hb (fun _ _ e => sortedAll_old e) (Nat.le_succ _) (sortedAll_at s.heap vs out.toArray)
end
open L2
/-- sorted(xs), xs a list of pairs whose first items are texts that differ (k says which) -/
def rSortSP (K : PySem.W.Frag) : List V → Hp → VK → Prop := fun vs H Q => ∃ (a : Addr) (xs : List V) (k : V → Str), vs = [V.ref a] ∧ SqL K H a xs ∧ (∀ x ∈ xs, ∃ t u, x = V.ref t ∧ H t = some (.tup [.str (k x), u])) ∧ (xs.map k).Nodup ∧
  ∀ ys p, ys.Perm xs → ys.Pairwise (fun x y => leS (k x) (k y) = true) → H p = none → Q (.ref p) (upd H p (.lst ys))
theorem map_inj {α β : Type} {f : α → β} : ∀ {l : List α}, (l.map f).Nodup → ∀ x ∈ l, ∀ y ∈ l, f x = f y → x = y
  | [], _, x, hx, _, _, _ => nomatch hx
  | a :: l, h, x, hx, y, hy, e => by
    obtain ⟨h1, h2⟩ := List.nodup_cons.mp (show (f a :: l.map f).Nodup from h)
    rcases List.mem_cons.mp hx with ex | hx'
    · rcases List.mem_cons.mp hy with ey | hy'
      · rw [ex, ey]
      · exact absurd (show f a ∈ l.map f from List.mem_map.mpr ⟨y, hy', by rw [← e, ex]⟩) h1
    · rcases List.mem_cons.mp hy with ey | hy'
      · exact absurd (show f a ∈ l.map f from List.mem_map.mpr ⟨x, hx', by rw [e, ey]⟩) h1
      · exact map_inj h2 x hx' y hy' e
section
variable {X : Cx}
theorem cr_sortSP : CallR X (.builtin "sorted") (rSortSP X.K) := by
  intro pz s σ H vs uz Q I r h
  obtain ⟨a, xs, k, rfl, hs, hx, hn, q⟩ := h
  obtain ⟨itz, rvz, hl, hz⟩ := I.list hs
  obtain ⟨u, rfl, ruz⟩ := vals1 r
  obtain rfl : u = Value.ref a := ruz
  obtain ⟨e1, e2⟩ := refs_back rvz fun x m => by
    obtain ⟨t, _, e, _⟩ := hx x m
    exact ⟨t, e⟩
  have inV : ∀ v ∈ itz, backV v ∈ xs := fun v hv => by rw [e1]; exact List.mem_map.mpr ⟨_, hv, rfl⟩
  refine sorted_sp (k := fun u => k (backV u)) hl.isList (by rw [← rvz.length]; exact hz) (fun v hv => ?_) (fun v hv u hu e => ?_) fun h' d out h1 h2 kp hd hn => ?_
  · obtain ⟨t, rfl⟩ := e2 v hv
    obtain ⟨t', u', e, ht⟩ := hx _ (inV _ hv)
    cases e
    obtain ⟨_, its2, r2, o, ho, hc, n, hd⟩ := I.hok _ _ ht; obtain ⟨u1, u2, rfl, ri, rj⟩ := vals2 r2
    obtain ⟨t1, rfl⟩ := ri
    exact ⟨t, o, t1, u2, n, rfl, ho, hc, hd⟩
  · have := map_inj hn _ (inV v hv) _ (inV u hu) e
    obtain ⟨t, rfl⟩ := e2 v hv
    obtain ⟨t', rfl⟩ := e2 u hu
    cases this
    rfl
  · have h3 : ∀ u ∈ out, ∃ a, u = Value.ref a := fun u m => e2 u (h2.perm.mem_iff.mp m)
    obtain ⟨n, hn⟩ := hn
    have hperm : (out.map backV).Perm xs := by
      rw [e1]
      exact h2.perm.map backV
    refine ⟨.ref d, upd H d (.lst (out.map backV)), I.laid (t' := s.toks) kp hd ⟨?_, out, n, vals_back h3, hn⟩, rfl, q _ d hperm ?_ (I.hok.fresh hd)⟩
    · rw [hperm.length_eq]
      exact hz
    · refine List.pairwise_map.mpr (h1.imp fun {a b} hab => ?_)
      show (!ltCps (k (backV b)).cps.toList (k (backV a)).cps.toList) = true
      have hab' : ltCps (k (backV b)).cps.toList (k (backV a)).cps.toList = false := hab
      rw [hab']
      rfl
/-- sorted(t), t a tuple of texts -/
def rSortT : List V → Hp → VK → Prop := fun vs H Q => ∃ (a : Addr) (xs : List Str), vs = [V.ref a] ∧ H a = some (.tup (xs.map V.str)) ∧ xs.length < 64 ∧ ∀ (ys : List Str) (p : Addr), ys.Perm xs → sortedS ys = true → H p = none → Q (.ref p) (upd H p (.lst (ys.map V.str)))
theorem cr_sortT : CallR X (.builtin "sorted") rSortT := by
  intro pz s σ H xs uz Q I r q
  obtain ⟨a, ks, ex, hd, hsix, q⟩ := q
  subst ex
  obtain ⟨u, eu, rz⟩ := vals1 r
  subst eu
  cases rz
  obtain ⟨_, itz, rvz, o, ho, hc, n, hdt⟩ := I.hok _ _ hd
  have hlen0 := rvz.length
  rw [List.length_map] at hlen0
  have hS0 := rvz.strs
  refine Calls.call_function_entry PyProof.Rows.kind_sorted PyProof.Rows.plain_sorted PyProof.Rows.entry_sorted (PyProof.Rows.args_sorted1 _) ?_; unfold Builtin.«sorted»
  refine wpAny_bind (m := checkCount "sorted" 1 1 _) (wpAny_pure ?_); refine wpAny_bind (wpAny_collect_seq (A := X.A.in1) a (.inr rfl) ho hc hdt (fun h' hk => ?_) (by rw [List.size_toArray, ← hlen0]; exact Nat.le_trans (Nat.le_of_lt hsix) (by decide)))
  have eA : itz.toArray.toList = itz := by simp
  rw [eA]
  have J1 : Inv X pz σ H { s with heap := h', toks := s.toks } := I.kept hk
  refine wpAny_bind (wpAny_newList ?_ (by rw [← hlen0, sizeLine_eq]; omega))
  have hoLz : (h'.push (seqObj "list" itz.toArray 0)).get? h'.objs.size = some (seqObj "list" itz.toArray 0) := Heap.get?_push_size _ rfl
  show wpAny _ _ _ _ _ { s with heap := h'.push (seqObj "list" itz.toArray 0) }
  refine wpAny_bind (wpAny_holding (wpAny_call_entry PyProof.Rows.slot_list_sort ⟨_, hoLz, rfl⟩ PyProof.Rows.entry_list_sort
    (list_sort_treeK strKind_oneLt (s := { s with heap := h'.push (seqObj "list" itz.toArray 0) }) hoLz hS0.keysOf (fun v₁ v₂ rest e => keyKind_strs (by rw [← e]; exact hS0)) (by rw [← hlen0]; exact hsix) fun st' hp hs => ⟨_, rfl, ?_⟩) (PyProof.Rows.args_list_sort _)))
  obtain ⟨ys, g1, g2, g3⟩ := sorted_out_str hS0 hp hs
  obtain ⟨e', he'⟩ := PyProof.Rows.sortedHeap_at (vs := itz) (out := (arrOf st').map (·.2)) hoLz
  have hlen : (ys.map V.str).length ≤ sizeLine := show _ ≤ _ by
    rw [List.length_map, g2.length_eq]; exact Nat.le_trans (Nat.le_of_lt hsix) (by decide)
  refine wpAny_pure ⟨_, rfl, .ref h'.objs.size, upd H h'.objs.size (.lst (ys.map V.str)), J1.laid (t' := s.toks) (fun b u e => ?_) (Nat.le_refl _)
    (show ObjOk X.prog X.w _ _ _ (.lst (ys.map V.str)) from ⟨hlen, ((arrOf st').map (·.2)).toList, e', vals_of_strs g1, by rw [Array.toArray_toList]; exact he'⟩), rfl, q ys _ g2 g3 (J1.hok.fresh (Nat.le_refl _))⟩
  have hb : b < h'.objs.size := Heap.lt_size e; rw [PyProof.Rows.sortedHeap_old (Nat.ne_of_lt hb) (by rw [size_push']; exact Nat.lt_succ_of_lt hb)]; exact Heap.get?_push_of_some _ e
end
end Bc

namespace Bc
open PySem L2 PyProof.Rows StX
/-- a dict's data, ascending -/
def srtD (ds : List (Str × PyData)) : List (Str × PyData) := (srt (ds.map fun p => p.1)).map fun z => (z, (ds.lookup z).getD .none)
theorem lookup_mem {α : Type} : ∀ {l : List (Str × α)} {x : Str} {d : α}, l.lookup x = some d → (x, d) ∈ l
  | [], _, _, h => by simp at h
  | (k, e) :: r, x, d, h => by
    rw [List.lookup_cons] at h
    cases q : x == k with
    | true =>
      rw [q] at h
      have e1 : x = k := by simpa using q
      subst e1
      cases h
      exact List.mem_cons_self
    | false =>
      rw [q] at h
      exact List.mem_cons_of_mem _ (lookup_mem h)
theorem mem_lookup {α : Type} : ∀ {l : List (Str × α)} {x : Str}, x ∈ l.map (fun p => p.1) → ∃ d, l.lookup x = some d
  | [], _, h => nomatch h
  | (k, e) :: r, x, h => by
    rw [List.lookup_cons]
    cases q : x == k with
    | true => exact ⟨e, rfl⟩
    | false =>
      rcases List.mem_cons.mp h with z | m
      · have z' : x = k := z
        rw [z'] at q
        simp at q
      · exact mem_lookup m
/-- {x: d[x] for x in sorted(d)} -/
theorem dk_sorted {H : Hp} {kv : List (Key × V)} {ds : List (Str × PyData)} (h : Dk H kv ds) : Dk H ((srt (ds.map fun p => p.1)).map fun z => ((.inr z : Key), (valV kv (.inr z)).getD .non)) (srtD ds) := by
  have key : ∀ zs : List Str, (∀ z ∈ zs, z ∈ ds.map fun p => p.1) → Dk H (zs.map fun z => ((.inr z : Key), (valV kv (.inr z)).getD .non)) (zs.map fun z => (z, (ds.lookup z).getD .none)) := by
    intro zs
    induction zs with
    | nil => intro _; exact .nil
    | cons z r ih =>
      intro hz
      obtain ⟨d, hd⟩ := mem_lookup (hz z List.mem_cons_self)
      obtain ⟨v, hv, hdt⟩ := h.get hd
      refine .cons ?_ (ih fun y hy => hz y (List.mem_cons_of_mem _ hy))
      rw [hv, hd]
      exact hdt
  exact key _ fun z hz => (srt_perm _).mem_iff.mp hz
/-- a net in the heap -/
structure NetAt (H : Hp) (C x : Addr) (ks is : List (Str × PyData)) (os : List Str) : Prop where
  ex : ∃ (dx ka ia oa : Addr) (kv iv : List (Key × V)), H x = some (.ins C dx [("knots", .ref ka), ("inlets", .ref ia), ("outlets", .ref oa)]) ∧ H ka = some (.dK kv) ∧ Dk H kv ks ∧ H ia = some (.dK iv) ∧ Dk H iv is ∧ H oa = some (.tup (os.map V.str))
theorem NetAt.go {H H' : Hp} {C x : Addr} {ks is : List (Str × PyData)} {os : List Str} (n : NetAt H C x ks is os) (e : Same H H') : NetAt H' C x ks is os := by
  obtain ⟨dx, ka, ia, oa, kv, iv, h1, h2, h3, h4, h5, h6⟩ := n.ex
  exact ⟨dx, ka, ia, oa, kv, iv, e _ _ h1, e _ _ h2, h3.go e, e _ _ h4, h5.go e, e _ _ h6⟩
/-- a net just made: its own parts are new -/
structure NetNew (H0 H : Hp) (C x : Addr) (ks is : List (Str × PyData)) (os : List Str) : Prop where
  ex : ∃ (dx ka ia oa : Addr) (kv iv : List (Key × V)), H x = some (.ins C dx [("knots", .ref ka), ("inlets", .ref ia), ("outlets", .ref oa)]) ∧ H ka = some (.dK kv) ∧ Dk H kv ks ∧ H ia = some (.dK iv) ∧ Dk H iv is ∧ H oa = some (.tup (os.map V.str)) ∧ H0 ka = none ∧ H0 ia = none
theorem NetNew.net {H0 H : Hp} {C x : Addr} {ks is : List (Str × PyData)} {os : List Str} (n : NetNew H0 H C x ks is os) : NetAt H C x ks is os := by
  obtain ⟨dx, ka, ia, oa, kv, iv, h1, h2, h3, h4, h5, h6, _⟩ := n.ex
  exact ⟨⟨dx, ka, ia, oa, kv, iv, h1, h2, h3, h4, h5, h6⟩⟩
theorem NetNew.go {H0 H H' : Hp} {C x : Addr} {ks is : List (Str × PyData)} {os : List Str} (n : NetNew H0 H C x ks is os) (e : Same H H') : NetNew H0 H' C x ks is os := by
  obtain ⟨dx, ka, ia, oa, kv, iv, h1, h2, h3, h4, h5, h6, h7, h8⟩ := n.ex
  exact ⟨dx, ka, ia, oa, kv, iv, e _ _ h1, e _ _ h2, h3.go e, e _ _ h4, h5.go e, e _ _ h6, h7, h8⟩
section
variable {X : Cx} {K : PySem.W.Frag} {σ : L2.St} {H : Hp} {ta tv : TE} {D : Ends} {u : TS}
theorem q_fldK {x C dx : Addr} {fs : List (Str × V)} {f : Str} {kvs : List (Key × V)} (hv : EvK tv σ H kvs) (ha : ∀ H', Same H H' → Ev ta σ H' (.ref x)) (hx : H x = some (.ins C dx fs)) (c : Cls K C) (n : NoAttr K C f) (hl : fs.length < 1000)
    (k : ∀ p H', H p = none → Same H H' → H' p = some (.dK kvs) → u D σ (upd H' x (.ins C dx (putF f (.ref p) fs)))) : tSeq (sFld K ta tv f) u D σ H :=
  hv _ fun p H1 hp e1 h1 => ha H1 e1 _ fun H2 e2 => ⟨x, C, dx, fs, rfl, e2 _ _ (e1 _ _ hx), c, n, hl, k p H2 hp (e1.trans e2) (e2 _ _ h1)⟩
theorem s_fldU {x C dx : Addr} {fs : List (Str × V)} {f : Str} {xs : List V} (hv : EvU tv σ H xs) (ha : ∀ H', Same H H' → Ev ta σ H' (.ref x)) (hx : H x = some (.ins C dx fs)) (c : Cls K C) (n : NoAttr K C f) (hl : fs.length < 1000)
    (k : ∀ p H', H p = none → Same H H' → H' p = some (.tup xs) → D.nx σ (upd H' x (.ins C dx (putF f (.ref p) fs)))) : sFld K ta tv f D σ H :=
  hv _ fun p H1 hp e1 h1 => ha H1 e1 _ fun H2 e2 => ⟨x, C, dx, fs, rfl, e2 _ _ (e1 _ _ hx), c, n, hl, k p H2 hp (e1.trans e2) (e2 _ _ h1)⟩
theorem ev_callL {sp : Sp} {E : XK} {xs : List V} {v : V} (h : EvL ta σ H xs) (k : ∀ p H', Same H H' → H' p = some (.lst xs) → ∀ Q : VK, (∀ H2, Same H' H2 → Q v H2) → sp ([.ref p] ++ []) H' Q E) : Ev (tCall sp [] E (tCons ta tNil)) σ H v := fun Q q =>
  h _ fun p H1 hp e1 hx => k p H1 e1 hx Q fun H2 e2 => q H2 (e1.trans e2)
abbrev rSortLT (K : PySem.W.Frag) : List V → Hp → VK → Prop := fun xs H Q => rSortedS K xs H Q ∨ rSortT xs H Q
theorem el_sortLT {c : Addr} {os : List Str} (ha : Ev ta σ H (.ref c)) (hc : H c = some (.lst (os.map V.str)) ∨ H c = some (.tup (os.map V.str))) (hl : os.length < 64) : EvL (tCB (rSortLT K) (tCons ta tNil)) σ H ((srt os).map V.str) := fun Q q =>
  ha _ fun H1 e1 => by
    rcases hc with hc | hc
    · refine .inl ⟨c, os, rfl, SqL.of (e1 _ _ hc), hl, fun ys p h1 h2 h3 => ?_⟩
      have e := srt_is h1 h2
      subst e
      exact q p _ (e1.free h3) (e1.trans (same_upd h3)) upd_same
    · refine .inr ⟨c, os, rfl, e1 _ _ hc, hl, fun ys p h1 h2 h3 => ?_⟩
      have e := srt_is h1 h2
      subst e
      exact q p _ (e1.free h3) (e1.trans (same_upd h3)) upd_same
abbrev rTupOf (K : PySem.W.Frag) : List V → Hp → VK → Prop := fun xs H Q => ∃ p ys, xs = [V.ref p] ∧ ((SqL K H p ys ∧ ∀ l, H l = none → Q (.ref l) (upd H l (.tup ys))) ∨ (SqT K H p ys ∧ Q (.ref p) H))
theorem eu_tupOf {xs : List V} (h : EvL ta σ H xs) : EvU (tCB (rTupOf K) (tCons ta tNil)) σ H xs := fun Q q =>
  h _ fun p H1 hp e1 hx => ⟨p, xs, rfl, .inl ⟨SqL.of hx, fun l hl => q l _ (e1.free hl) (e1.trans (same_upd hl)) upd_same⟩⟩
end
theorem ki_ : ¬ (("knots" : Str) = "inlets") := by decide +kernel
theorem ko_ : ¬ (("knots" : Str) = "outlets") := by decide +kernel
theorem io_ : ¬ (("inlets" : Str) = "outlets") := by decide +kernel
theorem put1 (a : V) : putF "knots" a [] = ([("knots", a)] : List (Str × V)) := rfl
theorem put2 (a b : V) : putF "inlets" b ([("knots", a)] : List (Str × V)) = ([("knots", a), ("inlets", b)] : List (Str × V)) := by
  show (if ("knots" : Str) = "inlets" then [(("knots" : Str), b)] else (("knots" : Str), a) :: putF "inlets" b []) = ([("knots", a), ("inlets", b)] : List (Str × V))
  rw [if_neg ki_]
  rfl
theorem put3 (a b c : V) : putF "outlets" c ([("knots", a), ("inlets", b)] : List (Str × V)) = ([("knots", a), ("inlets", b), ("outlets", c)] : List (Str × V)) := by
  show (if ("knots" : Str) = "outlets" then (("knots" : Str), c) :: [(("inlets" : Str), b)] else (("knots" : Str), a) :: (if ("inlets" : Str) = "outlets" then [(("inlets" : Str), c)] else (("inlets" : Str), b) :: putF "outlets" c [])) = ([("knots", a), ("inlets", b), ("outlets", c)] : List (Str × V))
  rw [if_neg ko_, if_neg io_]
  rfl
section
variable {K : PySem.W.Frag} {σ : L2.St} {H : Hp} {ta tb : TE}
/-- [*d, *xs, *e] of anything -/
theorem el_starG {tc : TE} {a b c : Addr} {ov : List V} {kvs ivs : List (Key × V)} (ha : Ev ta σ H (.ref a)) (h : H a = some (.dK kvs)) (hb : ∀ H', Same H H' → Ev tb σ H' (.ref c)) (hc : H c = some (.lst ov) ∨ H c = some (.tup ov))
    (hd : ∀ H', Same H H' → Ev tc σ H' (.ref b)) (h' : H b = some (.dK ivs)) (hl : (kvs.length + ov.length + ivs.length) ≤ 100000) :
    EvL (tLst (tStarD ta (tStar K tb (tStarD tc tNil)))) σ H ((kvs.map fun kv : Key × V => kV kv.1) ++ (ov ++ ((ivs.map fun kv : Key × V => kV kv.1) ++ []))) := fun Q q => by
  refine ha _ fun H1 e1 => ⟨a, kvs, rfl, .inl (e1 _ _ h), hb H1 e1 _ fun H2 e2 => ⟨c, ov, rfl, ?_, hd H2 (e1.trans e2) _ fun H3 e3 => ⟨b, ivs, rfl, .inl (e3 _ _ (e2 _ _ (e1 _ _ h'))), ?_⟩⟩⟩
  · rcases hc with hc | hc
    · exact .inr (SqL.of (e2 _ _ (e1 _ _ hc)))
    · exact .inl (SqT.of (e2 _ _ (e1 _ _ hc)))
  · exact ⟨sz (by rw [List.length_append, List.length_append, List.length_append, List.length_map, List.length_map]; show _ + (_ + (_ + 0)) ≤ _; omega), fun p hp => q p _ (e1.free (e2.free (e3.free hp))) ((e1.trans (e2.trans e3)).trans (same_upd hp)) upd_same⟩
/-- a call as a statement, whatever its end -/
theorem q_dropS {sp : Sp} {E : L2.St → XK} {t : TA} {u : TS} {D : Ends} {vs : List V} (h : EvA t σ H vs) (k : ∀ H', Same H H' → sp vs H' (fun _ H2 => u D σ H2) (E σ)) : tSeq (tDrop (tCallS sp E t)) u D σ H := h _ fun H' e => k H' e
theorem q_dropSL {sp : Sp} {E : L2.St → XK} {u : TS} {D : Ends} {xs : List V} (h : EvL ta σ H xs) (k : ∀ p H', Same H H' → H' p = some (.lst xs) → sp [.ref p] H' (fun _ H2 => u D σ H2) (E σ)) : tSeq (tDrop (tCallS sp E (tCons ta tNil))) u D σ H := h _ fun p H' hp e hx => k p H' e hx
end
end Bc

namespace Bc
open PySem L2 PyProof.Rows StX
section
variable {P : Program} {w : World} {K : PySem.W.Frag} {mg : Str → Option Value} {base : Heap} {ad : Ad}
/-! ### Net.__init__ -/
/-- the last check, and a net -/
def EndMet (C B : Addr) (H0 : Hp) (x a b : Addr) (kv iv : List (Key × V)) (ds es : List (Str × PyData)) (os : List Str) (Q : VK) (E : XK) : Prop := ∃ ks is, ds = kd ks ∧ es = id_ is ∧ NetIn H0 a b kv iv ks is ∧ ∀ zs, Closed ks is zs → (∀ z ∈ zs, Reach ks is z) →
  (∃ z, (srt (kn ks)).find? (fun z => !decide (z ∈ zs)) = some z ∧ Raised B (.str z) H0 E) ∨ ((srt (kn ks)).find? (fun z => !decide (z ∈ zs)) = none ∧ ∀ H', Same H0 H' → NetNew H0 H' C x (srtD ds) (srtD es) (srt os) → Q .non H')
/-- rows and inlets -/
def EndRows (C B : Addr) (H0 : Hp) (x a b : Addr) (kv iv : List (Key × V)) (ov : List V) (Q : VK) (E : XK) : Prop := ∃ (ds es : List (Str × PyData)) (os : List Str), Dk H0 kv ds ∧ Dk H0 iv es ∧ ov = os.map V.str ∧ (keysD ds ++ os ++ keysD es).Nodup ∧ (∀ p ∈ ds, smallN 2 p.2 ∧ Bn.TellV (.str p.1)) ∧ (∀ p ∈ es, Bn.TellV (.str p.1)) ∧
  ((∃ z, (srt (keysD ds)).find? (rowsBad ds os) = some z ∧ Raised B (.str z) H0 E) ∨ ((srt (keysD ds)).find? (rowsBad ds os) = none ∧
    ((∃ p, es.find? (inBad (keysD ds)) = some p ∧ Raised B (.str p.1) H0 E) ∨ (es.find? (inBad (keysD ds)) = none ∧ EndMet C B H0 x a b kv iv ds es os Q E))))
/-- names -/
def EndNames (C B : Addr) (H0 : Hp) (x a : Addr) (kv : List (Key × V)) (vi vo : V) (Q : VK) (E : XK) : Prop := ∃ (b c : Addr) (iv : List (Key × V)) (ov : List V) (nds : List PyData), vi = .ref b ∧ vo = .ref c ∧ a ≠ b ∧ H0 b = some (.dK iv) ∧ (H0 c = some (.lst ov) ∨ H0 c = some (.tup ov)) ∧ 1 ≤ kv.length ∧ kv.length ≤ 12 ∧ iv.length ≠ 0 ∧ iv.length < 60 ∧ ov.length < 60 ∧
  Dts H0 ((kv.map fun kv : Key × V => kV kv.1) ++ (ov ++ ((iv.map fun kv : Key × V => kV kv.1) ++ []))) nds ∧ (∀ z, PyData.str z ∈ nds → z.length ≤ 1000 ∧ Bn.TellV (.str z)) ∧ ((∃ v, nameErr [] nds = some v ∧ Raised B v H0 E) ∨ (nameErr [] nds = none ∧ EndRows C B H0 x a b kv iv ov Q E))
def spInit (C B : Addr) : Sp := fun vs H Q E => ∃ (H0 : Hp) (x dx a : Addr) (vi vo : V) (kv : List (Key × V)), vs = [.ref x, .ref a, vi, vo] ∧ Same H0 H ∧ H0 x = none ∧ H x = some (.ins C dx []) ∧ H0 a = some (.dK kv) ∧
  ((∃ n q, InK H0 vi n ∧ OutK H0 vo q ∧ kindsOk kv.length n q = false ∧ Raised B .non H0 E) ∨ EndNames C B H0 x a kv vi vo Q E)
theorem scInit : FnScope ["self", "knots", "inlets", "outlets", "knot", "inlet"] ["self", "knots", "inlets", "outlets"] (defScope sInit) := ⟨rfl, rfl, rfl, by decide +kernel, rfl, by decide +kernel, by decide +kernel⟩
theorem ok_init (T : Tb P K mg ad) : FnOk P w K mg base (L2.CX P w) 6 ad.init ad.dInit ["self", "knots", "inlets", "outlets"] (spInit ad.cNet ad.cBad) := by
  have G1 : FnOk P w K mg base (L2.CX P w) 2 ad.kinds ad.dKinds ["knots", "inlets", "outlets"] (spKinds ad.cBad) := ok_kinds T
  have G2 : FnOk P w K mg base (L2.CX P w) 3 ad.names ad.dNames ["names"] (spNames ad.cBad) := ok_names T
  have G3 : FnOk P w K mg base (L2.CX P w) 5 ad.rows ad.dRows ["knots", "outlets"] (spRows ad.cBad) := ok_rows T
  have G4 : FnOk P w K mg base (L2.CX P w) 2 ad.inlets ad.dInlets ["knots", "inlets"] (spInlets ad.cBad) := ok_inlets T
  have G5 : FnOk P w K mg base (L2.CX P w) 4 ad.chMet ad.dChMet ["knots", "inlets"] (spChMet ad.cBad) := ok_chMet T
  have b1 := T.tx.fKinds.binds (ps := ["knots", "inlets", "outlets"]) fun _ _ _ _ _ _ us hl => match us, hl with | [_, _, _], _ => rfl
  have b2 := T.tx.fNames.binds (ps := ["names"]) fun _ _ _ _ _ _ us hl => match us, hl with | [_], _ => rfl
  have b3 := T.tx.fRows.binds (ps := ["knots", "outlets"]) fun _ _ _ _ _ _ us hl => match us, hl with | [_, _], _ => rfl
  have b4 := T.tx.fInlets.binds (ps := ["knots", "inlets"]) fun _ _ _ _ _ _ us hl => match us, hl with | [_, _], _ => rfl
  have b5 := T.tx.fChMet.binds (ps := ["knots", "inlets"]) fun _ _ _ _ _ _ us hl => match us, hl with | [_, _], _ => rfl
  refine T.tx.fInit.okX scInit (fun vs H Q E h => ?_) (fun cdv A outer s H vs Q E hr h => ?_)
  · obtain ⟨H0, x, dx, a, vi, vo, kv, rfl, _⟩ := h
    rfl
  · obtain ⟨H0, x, dx, a, vi, vo, kv, rfl, e0, x0, hx, ha, hend⟩ := h
    have hr2 : Room 2 _ := hr.mono (by decide)
    have hr3 : Room 3 _ := hr.mono (by decide)
    have hr4 : Room 4 _ := hr.mono (by decide)
    refine ⟨_, pss_cons (ps_expr (pe_callS G1 hr2 (by rfl) T.tx.gKinds T.tx.fKinds.kp b1 (fun σ => passAt (takes_of rfl rfl rfl rfl) σ) (pa_cons (pv 1) (pa_cons (pv 2) (pa_cons (pv 3) pa_nil)))))
      (pss_cons (ps_expr (pe_callS G2 hr3 (by rfl) T.tx.gNames T.tx.fNames.kp b2 (fun σ => passAt (takes_of rfl rfl rfl rfl) σ) (pa_cons (pe_lst (pa_starD rfl (pv 1) (pa_star (pv 3) (pa_starD rfl (pv 2) pa_nil)))) pa_nil)))
      (pss_cons (ps_expr (pe_callS G3 hr (by rfl) T.tx.gRows T.tx.fRows.kp b3 (fun σ => passAt (takes_of rfl rfl rfl rfl) σ) (pa_cons (pv 1) (pa_cons (pv 3) pa_nil))))
      (pss_cons (ps_expr (pe_callS G4 hr2 (by rfl) T.tx.gInlets T.tx.fInlets.kp b4 (fun σ => passAt (takes_of rfl rfl rfl rfl) σ) (pa_cons (pv 1) (pa_cons (pv 2) pa_nil))))
      (pss_cons (ps_expr (pe_callS G5 hr4 (by rfl) T.tx.gChMet T.tx.fChMet.kp b5 (fun σ => passAt (takes_of rfl rfl rfl rfl) σ) (pa_cons (pv 1) (pa_cons (pv 2) pa_nil))))
      (pss_cons (ps_fld (pv 0) (pe_dc (own := [("knot", 4)]) (g := gName 4) (tt := tYes) rfl scInit.nd (pi_list (pe_callB (call_sortedD rfl) (by rfl) T.tx.sorted b_sorted (pa_cons (pv 1) pa_nil))) (blkOk_by (N := ["self", "knots", "inlets", "outlets", "knot", "inlet"]) (sc := defScope sInit) (by decide +kernel))
        (fun _ _ _ _ _ => pg_name (i := 4) scInit.nd rfl (Or.inl rfl)) (fun _ _ _ _ _ => pts_nil) (fun _ _ _ _ _ => pv 4) (fun _ _ _ _ _ => pe_dget (hu_of hr) (pv 1) (pv 4) (fun _ _ => rfl))) rfl)
      (pss_cons (ps_fld (pv 0) (pe_dc (own := [("inlet", 5)]) (g := gName 5) (tt := tYes) rfl scInit.nd (pi_list (pe_callB (call_sortedD rfl) (by rfl) T.tx.sorted b_sorted (pa_cons (pv 2) pa_nil))) (blkOk_by (N := ["self", "knots", "inlets", "outlets", "knot", "inlet"]) (sc := defScope sInit) (by decide +kernel))
        (fun _ _ _ _ _ => pg_name (i := 5) scInit.nd rfl (Or.inl rfl)) (fun _ _ _ _ _ => pts_nil) (fun _ _ _ _ _ => pv 5) (fun _ _ _ _ _ => pe_dget (hu_of hr) (pv 2) (pv 5) (fun _ _ => rfl))) rfl)
      (pss_one (ps_fld (pv 0) (pe_callTy call_tuple_of (by rfl) T.tx.tuple b_tuple (pa_cons (pe_callB (CallR.or cr_sortedS cr_sortT) (by rfl) T.tx.sorted b_sorted (pa_cons (pv 3) pa_nil)) pa_nil)) rfl)))))))), ?_⟩
    rcases hend with ⟨n, q, hi, ho, hbad, rz⟩ | hend
    · refine q_dropS (ea_cons (ev_tv rfl) fun _ _ => ea_cons (ev_tv rfl) fun _ _ => ea_cons (ev_tv rfl) fun _ _ => ea_nil) fun H1 e1 => ⟨a, vi, vo, kv, n, q, rfl, e1 _ _ (e0 _ _ ha), hi.go (e0.trans e1), ho.go (e0.trans e1), fun z => ?_, fun _ => rz.go (e0.trans e1)⟩
      rw [hbad] at z
      cases z
    obtain ⟨b, c, iv, ov, nds, rfl, rfl, ne, hb, hc, kv1, kv12, iv1, iv60, ov60, hnd, hzn, hend⟩ := hend
    refine q_dropS (ea_cons (ev_tv rfl) fun _ _ => ea_cons (ev_tv rfl) fun _ _ => ea_cons (ev_tv rfl) fun _ _ => ea_nil) fun H1 e1 => ⟨a, _, _, kv, some iv.length, true, rfl, e1 _ _ (e0 _ _ ha), .inl ⟨b, iv, rfl, e1 _ _ (e0 _ _ hb), rfl⟩, .inl ⟨c, ov, rfl, hc.imp (fun h => e1 _ _ (e0 _ _ h)) (fun h => e1 _ _ (e0 _ _ h)), rfl⟩, fun _ H1' e1' => ?_, fun z => ?_⟩
    · have e01 := e0.trans (e1.trans e1')
      have nl := hnd.length
      have hxa : (kv.map fun kv : Key × V => kV kv.1).length = kv.length := List.length_map _
      have hxb : (iv.map fun kv : Key × V => kV kv.1).length = iv.length := List.length_map _
      rw [List.length_append, List.length_append, List.length_append, hxa, hxb] at nl
      have nl2 : nds.length ≤ 1000 := by
        have z0 : ([] : List V).length = 0 := rfl
        omega
      have hx1 := e1' _ _ (e1 _ _ hx)
      clear e1 e1'
      refine q_dropSL (el_starG (K := K) (a := a) (b := b) (c := c) (ov := ov) (ev_tv rfl) (e01 _ _ ha) (fun _ _ => ev_tv rfl) (hc.imp (fun h => e01 _ _ h) (fun h => e01 _ _ h)) (fun _ _ => ev_tv rfl) (e01 _ _ hb) (by omega)) fun p H2 e2 hxs => ?_
      rcases hend with ⟨v, hv, rz⟩ | ⟨hok, hend⟩
      · exact ⟨p, _, nds, rfl, hxs, hnd.go (e01.trans e2), nl2, hzn, (fun z => by rw [hv] at z; cases z), fun v' hv' => by
          rw [hv] at hv'
          cases hv'
          exact rz.go (e01.trans e2)⟩
      refine ⟨p, _, nds, rfl, hxs, hnd.go (e01.trans e2), nl2, hzn, fun _ H3 e3 => ?_, fun v' hv' => by rw [hok] at hv'; cases hv'⟩
      have e03 := e01.trans (e2.trans e3)
      have hx3 := e3 _ _ (e2 _ _ hx1)
      clear e2 e3
      obtain ⟨ds, es, os, hkd, hie, rfl, nd, sm, te, hend⟩ := hend
      have dl : (keysD ds).length = kv.length := by rw [hkd.length]; exact List.length_map _
      have dl2 : ds.length = kv.length := hkd.length.symm
      have el : (keysD es).length = iv.length := by rw [hie.length]; exact List.length_map _
      have nd2 : (keysD ds ++ os).Nodup := (List.nodup_append.mp nd).1
      have ol : (os.map V.str).length = os.length := List.length_map _
      have few2 : (keysD ds ++ os).length ≤ 1000 := by
        rw [List.length_append]
        omega
      refine q_dropS (ea_cons (ev_tv rfl) fun _ _ => ea_cons (ev_tv rfl) fun _ _ => ea_nil) fun H4 e4 => ?_
      have e04 := e03.trans e4
      rcases hend with ⟨z, hz, rz⟩ | ⟨hok2, hend⟩
      · exact ⟨a, c, kv, ds, os, rfl, e04 _ _ ha, hkd.go e04, hc.imp (fun h => e04 _ _ h) (fun h => e04 _ _ h), nd2, few2, by omega, sm, (fun y => by rw [hz] at y; cases y), fun z' hz' => by
          rw [hz] at hz'
          cases hz'
          exact rz.go e04⟩
      refine ⟨a, c, kv, ds, os, rfl, e04 _ _ ha, hkd.go e04, hc.imp (fun h => e04 _ _ h) (fun h => e04 _ _ h), nd2, few2, by omega, sm, fun _ H5 e5 => ?_, fun z' hz' => by rw [hok2] at hz'; cases hz'⟩
      have e05 := e04.trans e5
      have hx5 := e5 _ _ (e4 _ _ hx3)
      clear e03 e04 e4 e5
      refine q_dropS (ea_cons (ev_tv rfl) fun _ _ => ea_cons (ev_tv rfl) fun _ _ => ea_nil) fun H6 e6 => ?_
      have e06 := e05.trans e6
      rcases hend with ⟨p', hp', rz⟩ | ⟨hok3, hend⟩
      · exact ⟨a, b, kv, iv, ds, es, rfl, ne, e06 _ _ ha, hkd.go e06, e06 _ _ hb, hie.go e06, te, (fun y => by rw [hp'] at y; cases y), fun z' hz' => by
          rw [hp'] at hz'
          cases hz'
          exact rz.go e06⟩
      refine ⟨a, b, kv, iv, ds, es, rfl, ne, e06 _ _ ha, hkd.go e06, e06 _ _ hb, hie.go e06, te, fun _ H7 e7 => ?_, fun z' hz' => by rw [hok3] at hz'; cases hz'⟩
      have e07 := e06.trans e7
      have hx7 := e7 _ _ (e6 _ _ hx5)
      clear e05 e06 e6 e7
      obtain ⟨ks, is, rfl, rfl, N, hend⟩ := hend
      have ek : (kd ks).map (fun p => p.1) = kn ks := kd_keys ks
      have ei : (id_ is).map (fun p => p.1) = inn is := id_keys is
      refine q_dropS (ea_cons (ev_tv rfl) fun _ _ => ea_cons (ev_tv rfl) fun _ _ => ea_nil) fun H8 e8 => ?_
      have e08 := e07.trans e8
      refine ⟨a, b, kv, iv, ks, is, rfl, N.go e08, fun z hz => ?_, fun zs hcl hrz => ?_⟩
      · obtain ⟨⟨z', r⟩, hm, rfl⟩ := List.mem_map.mp hz
        exact (sm (z', dRows r) (List.mem_map.mpr ⟨_, hm, rfl⟩)).2
      rcases hend zs hcl hrz with ⟨z, hz, rz⟩ | ⟨hok4, k⟩
      · exact ⟨(fun y => by rw [hz] at y; cases y), fun z' hz' => by
          rw [hz] at hz'
          cases hz'
          exact rz.go e08⟩
      refine ⟨fun _ H9 e9 => ?_, fun z' hz' => by rw [hok4] at hz'; cases hz'⟩
      have e09 := e08.trans e9
      have hx9 := e9 _ _ (e8 _ _ hx7)
      clear e07 e08 e8 e9
      have hkeys : kv.map (·.1) = (kn ks).map Sum.inr := by rw [N.hkv.keys, kd_keys]
      have hikeys : iv.map (·.1) = (inn is).map Sum.inr := by rw [N.hiv.keys, id_keys]
      have kvl : kv.length = ks.length := by rw [N.hkv.length]; exact List.length_map _
      have ivl : iv.length = is.length := by rw [N.hiv.length]; exact List.length_map _
      have knl : (kn ks).length = ks.length := List.length_map _
      have inl_ : (inn is).length = is.length := List.length_map _
      have ilen := N.ilen
      have N5 := N.go e09
      refine q_fldK (K := K) (ek_dc (K := K) (zs := srt (kn ks)) (g := fun z => (valV kv (.inr z)).getD .non) (el_sortedD (ev_tv rfl) N5.ha hkeys (by omega)) ((srt_perm _).nodup_iff.mpr N.kn) (by rw [(srt_perm _).length_eq]; omega) (fun _ => rfl) fun z H' hz e => ⟨ev_tv rfl, ?_⟩) (fun _ _ => ev_tv rfl) hx9 T.tx.cl T.tx.nKnots (by decide) fun ka H6 hka e6 hkd => ?_
      · have hm : z ∈ kn ks := (srt_perm _).mem_iff.mp hz
        obtain ⟨⟨z', r⟩, hm2, rfl⟩ := List.mem_map.mp hm
        obtain ⟨v, hv, hd⟩ := N.hkv.get (kd_get N.kn hm2)
        show Ev _ _ _ ((valV kv (.inr z')).getD .non)
        rw [hv]
        exact ev_dget (k := .inr z') (ev_tv rfl) (fun _ _ => ev_tv rfl) (e _ _ N5.ha) hv
      have kax : ka ≠ x := (ne_of_none hx9 hka).symm
      have e06 : Same H0 (upd H6 x (.ins ad.cNet dx (putF "knots" (.ref ka) []))) := Same.mut (e09.trans e6) x0
      have N6 := N.go e06
      refine q_fldK (K := K) (ek_dc (K := K) (zs := srt (inn is)) (g := fun z => (valV iv (.inr z)).getD .non) (el_sortedD (ev_tv rfl) N6.hb hikeys (by omega)) ((srt_perm _).nodup_iff.mpr N.inn) (by rw [(srt_perm _).length_eq]; omega) (fun _ => rfl) fun z H' hz e => ⟨ev_tv rfl, ?_⟩) (fun _ _ => ev_tv rfl) upd_same T.tx.cl T.tx.nInlets (by show 1 < 1000; decide) fun ia H7 hia e7 hid => ?_
      · have hm : z ∈ inn is := (srt_perm _).mem_iff.mp hz
        obtain ⟨⟨z', r⟩, hm2, rfl⟩ := List.mem_map.mp hm
        obtain ⟨v, hv, hd⟩ := N.hiv.get (id_get N.inn hm2)
        show Ev _ _ _ ((valV iv (.inr z')).getD .non)
        rw [hv]
        exact ev_dget (k := .inr z') (ev_tv rfl) (fun _ _ => ev_tv rfl) (e _ _ N6.hb) hv
      have iax : ia ≠ x := fun z => by
        rw [z, upd_same] at hia
        cases hia
      have ika : ka ≠ ia := fun z => by
        rw [← z, upd_ne kax, hkd] at hia
        cases hia
      have e07 := Same.mut (o := HO.ins ad.cNet dx (putF "inlets" (.ref ia) (putF "knots" (.ref ka) []))) (e06.trans e7) x0
      have hc7 := hc.imp (fun h => e07 _ _ h) (fun h => e07 _ _ h)
      refine s_fldU (K := K) (eu_tupOf (el_sortLT (ev_tv rfl) hc7 (by omega))) (fun _ _ => ev_tv rfl) upd_same T.tx.cl T.tx.nOutlets (by rw [put1, put2]; show 2 < 1000; decide) fun oa H8 hoa e8 hod => ?_
      have oax : oa ≠ x := fun z => by
        rw [z, upd_same] at hoa
        cases hoa
      refine k _ (Same.mut (e07.trans e8) x0) ⟨⟨dx, ka, ia, oa, (srt (kn ks)).map fun z => ((.inr z : Key), (valV kv (.inr z)).getD .non), (srt (inn is)).map fun z => ((.inr z : Key), (valV iv (.inr z)).getD .non), ?_, ?_, ?_, ?_, ?_, ?_, (e09.free hka), ?_⟩⟩
      · rw [upd_same, put1, put2, put3]
      · rw [upd_ne kax]
        exact e8 _ _ (by rw [upd_ne kax]; exact e7 _ _ (by rw [upd_ne kax]; exact hkd))
      · have q := dk_sorted (N.hkv.go (Same.mut (o := HO.ins ad.cNet dx (putF "outlets" (.ref oa) (putF "inlets" (.ref ia) (putF "knots" (.ref ka) [])))) (e07.trans e8) x0))
        have ek : (kd ks).map (fun p => p.1) = kn ks := kd_keys ks
        rw [ek] at q
        exact q
      · rw [upd_ne iax]
        exact e8 _ _ (by rw [upd_ne iax]; exact hid)
      · have q := dk_sorted (N.hiv.go (Same.mut (o := HO.ins ad.cNet dx (putF "outlets" (.ref oa) (putF "inlets" (.ref ia) (putF "knots" (.ref ka) [])))) (e07.trans e8) x0))
        have ek : (id_ is).map (fun p => p.1) = inn is := id_keys is
        rw [ek] at q
        exact q
      · rw [upd_ne oax]
        exact hod
      · exact e06.free hia
    · have q : kindsOk kv.length (some iv.length) true = true := by
        unfold kindsOk
        rw [decide_eq_true kv1, decide_eq_true kv12]
        show decide (iv.length ≠ 0) = true
        exact decide_eq_true iv1
      rw [q] at z
      cases z
end
end Bc

namespace Bc
open PySem PySem.Spec L2 PyProof.Rows StX
/-- the caller's way out, whatever the slots -/
def tMakeS (C : Addr) (sp : Sp) (E : L2.St → XK) (t : TA) : TE := fun σ H Q => tMake C sp [] (E σ) t σ H Q
theorem pe_makeS {X : Cx} {CX : CXT} {k : Nat} {f C : Addr} {fd : FuncData} {ps : List Str} {sp : Sp} {E : L2.St → XK} {x : Str} {p pos : Pos} {e : Expr} {es : List Expr} {t : TA}
    (M : Mk X.K C f) (F : FnOk X.prog X.w X.K X.mg X.base CX k f fd ps sp) (hr : Room (k + 1) X.A) (hg : Gl X x) (hm : X.mg x = some (.ref C)) (hb : Binds X.K fd ps []) (hx : ∀ σ, PassesAt CX X σ (E σ))
    (ha : PA X (e :: es) t) (hdb : (x == ("__debug__" : Str)) = false := by decide) (he : starEach (e :: es) X.env = (false, eval e X.env) :: starEach es X.env := by rfl) (hpl : (backTo pos (starEach es X.env)).any (·.1) = false := by rfl) :
    PE X (.Call (.Name x p) (e :: es) [] pos) (tMakeS C sp E t) := by
  refine ⟨fun pins s σ H Q I h => ?_⟩
  refine wpAny_Call_Name_kw (ld_glob I hg hm ?_ hdb)
  refine PySem.W.callWith_K (h₀ := X.base) I.ok.mod.kin M.kp (thn (ha.run pos pins s σ H _ I h) fun us s1 hh => ?_) he hpl
  obtain ⟨vs, H1, J, rv, go⟩ := hh
  refine ⟨J.kIn, ?_⟩
  have n0 := J.hok.fresh (Nat.le_refl s1.heap.objs.size)
  have n1 := J.hok.fresh (Nat.le_succ s1.heap.objs.size)
  have spx := go _ _ n1 n0 (Nat.ne_of_lt (Nat.lt_succ_self _))
  rw [List.append_nil] at spx
  have J2 := Inv.made (C := C) J
  have rv2 : Vals (V.ref (s1.heap.objs.size + 1) :: vs) (Value.ref (s1.heap.objs.size + 1) :: us) := .cons rfl rv
  have hl : (Value.ref (s1.heap.objs.size + 1) :: us).length = ps.length := rv2.length.symm.trans (F.len _ _ _ _ spx)
  have bnd := hb _ (Value.ref (s1.heap.objs.size + 1) :: us) J2.kIn (by rw [List.append_nil]; exact hl)
  rw [List.append_nil] at bnd
  refine wpAny_call (make_map (f := f) J.kIn M.makes M.init (beq_iff_eq.mp M.fn) (codeAny_mono (F.run _ X.stack _ _ ⟨Value.ref (s1.heap.objs.size + 1) :: us, []⟩ _ _ _ (E σ) (hr.make C us []) (J2.env0.make C us []) bnd rv2 spx) fun r s' out => ?_))
  match r, out with
  | .error e', out => exact hx σ pins _ _ e' s' J2 out
  | .ok (.ret u), out =>
    obtain ⟨v, H', J3, rv3, ev, done⟩ := J2.after out
    subst ev
    exact ⟨rv3, ⟨V.ref (s1.heap.objs.size + 1), H', J3, rfl, done⟩⟩
  | .ok .next, out => exact False.elim out
  | .ok .brk, out => exact False.elim out
  | .ok .cont, out => exact False.elim out
end Bc

namespace Bc
open PySem L2 PyProof.Rows StX
/-- a net of these is refused with that name -/
def Refuses (C B : Addr) (H : Hp) (a : Addr) (kv : List (Key × V)) (vi vo v : V) : Prop := H a = some (.dK kv) ∧ ∀ (x : Addr) (Q : VK) (E : XK), H x = none → Raised B v H E →
  (∃ n q, InK H vi n ∧ OutK H vo q ∧ kindsOk kv.length n q = false ∧ Raised B .non H E) ∨ EndNames C B H x a kv vi vo Q E
theorem q_makeS {C : Addr} {sp : Sp} {E : L2.St → XK} {t : TA} {u : TS} {D : Ends} {σ : L2.St} {H : Hp} {vs : List V} (h : EvA t σ H vs)
    (k : ∀ H1, Same H H1 → ∀ x dx, H1 x = none → H1 dx = none → dx ≠ x → sp (.ref x :: (vs ++ [])) (upd (upd H1 dx (.own x)) x (.ins C dx [])) (fun v H2 => v = .non ∧ u D σ H2) (E σ)) : tSeq (tDrop (tMakeS C sp E t)) u D σ H := h _ fun H1 e1 => k H1 e1
theorem ev_xf {te : TE} {σ : L2.St} {H : Hp} {a0 C d : Addr} {fs : List (Str × V)} {f : Str} {v : V} (ha : Ev te σ H (.ref a0)) (hd : H d = some (.xd fs)) (hl : fs.lookup f = some v) : Ev (tXf a0 (.ref C) (some d) C f te) σ H v := fun Q q => ha _ fun H1 e1 => ⟨rfl, rfl, d, fs, v, rfl, e1 _ _ hd, hl, q H1 e1⟩
section
variable {P : Program} {w : World} {K : PySem.W.Frag} {mg : Str → Option Value} {base : Heap} {ad : Ad}
/-! ### _law_refused -/
def spRefused (C B : Addr) : Sp := fun vs H Q _ => ∃ (a : Addr) (vi vo : V) (kv : List (Key × V)) (v vn : V), vs = [.ref a, vi, vo, vn] ∧ Refuses C B H a kv vi vo v ∧ scal v vn = true ∧ ∀ H', Same H H' → Q (.bl (decide (v = vn))) H'
theorem scRefused : FnScope ["knots", "inlets", "outlets", "name", "error"] ["knots", "inlets", "outlets", "name"] (defScope sTurned) := ⟨rfl, rfl, rfl, by decide +kernel, rfl, by decide +kernel, by decide +kernel⟩
theorem ok_refused (T : Tb P K mg ad) : FnOk P w K mg base CX0 8 ad.refused ad.dRefused ["knots", "inlets", "outlets", "name"] (spRefused ad.cNet ad.cBad) := by
  have GI : FnOk P w K mg base (L2.CX P w) 6 ad.init ad.dInit ["self", "knots", "inlets", "outlets"] (spInit ad.cNet ad.cBad) := ok_init T
  have bI := T.tx.fInit.binds (ps := ["self", "knots", "inlets", "outlets"]) fun _ _ _ _ _ _ us hl => match us, hl with | [_, _, _, _], _ => rfl
  refine T.tx.fRefused.ok scRefused (fun vs H Q E h => ?_) (fun cdv A outer s H vs Q E hr h => ?_)
  · obtain ⟨a, vi, vo, kv, v, vn, rfl, _⟩ := h
    rfl
  · obtain ⟨a, vi, vo, kv, v, vn, rfl, ⟨ha, hend⟩, hs, k⟩ := h
    refine ⟨_, pss_one (ps_try_as (i := 4) (tb := fun W => tSeq (tDrop (tMakeS ad.cNet (spInit ad.cNet ad.cBad) (WE W) (tCons (tVar 0) (tCons (tVar 1) (tCons (tVar 2) tNil))))) (tRet (tC (.bl false)))) (ts := fun a cls d => tRet (tOp rEq (tXf a cls d ad.cBad "name" (tVar 4)) (tVar 3))) (Wout := fun _ _ _ _ => False)
      rfl rfl scRefused.nd rfl rfl ⟨rfl, by decide, Or.inl T.bad.gC⟩ takes0
      (fun W pn xe tk _ => pss_cons (ps_expr (by exact (pe_makeS T.tx.mkN GI hr (by rfl) T.tx.gNet bI (fun σ => passAt tk σ) (by exact (pa_cons (pv 0) (pa_cons (pv 1) (pa_cons (pv 2) pa_nil))))))) (pss_one (ps_ret (by exact pe_bl))))
      (fun a oe cls d pn hz hf => pss_one (ps_ret (by exact (pe_cmpR op_eq (pe_xf T.xf T.bad.noN hz hf (pv 4)) (pv 3) (nomark _)))))), ?_⟩
    refine q_makeS (ea_cons (ev_tv rfl) fun _ _ => ea_cons (ev_tv rfl) fun _ _ => ea_cons (ev_tv rfl) fun _ _ => ea_nil) fun H1 e1 x dx hx hdx hne => ?_
    have x0 : H x = none := e1.free hx
    have eN : Same H (upd (upd H1 dx (.own x)) x (.ins ad.cNet dx [])) := e1.trans ((same_upd hdx).trans (same_upd (by rw [upd_ne hne.symm]; exact hx)))
    refine ⟨H, x, dx, a, vi, vo, kv, rfl, eN, x0, upd_same, ha, hend x _ _ x0 fun d H' e hd => ?_⟩
    refine ⟨true, T.te, fun _ a0 _ => ?_, fun q => Bool.noConfusion q⟩
    exact s_ret (ev_eq (ev_xf (ev_tv rfl) upd_same Bn.lookN) (fun _ _ => ev_tv rfl) hs) fun H2 e2 => k H2 (e.trans ((same_upd hd).trans e2))
end
end Bc

/-! len(o), x in o, o == x, o != p by an own class's __len__, __contains__, __eq__; == of dicts of data -/
namespace Bc
open PySem PySem.W PyProof.Rows
section
variable {s : Shared} {prog : Program} {w : World} {A : Around} {E : Value → Shared → Prop} {K : Frag} {x C f : Addr} {ox : Obj} {od : Option Obj} {b : Value} {h₀ : Heap} {L : Addr} {m : Str → Option Value}
theorem objNe_K (hu : A.units < cLine) (X : K.In s.heap) (I : InstAt s.heap x ox C od) (hs : findIn K (.ref C) "__eq__" = some (some (.ref f))) (hf : isFn K (.ref f) = true) {Q : Fin → Shared → Prop}
    (hcall : wpAny (model prog w) A (call (.ref f) [.ref x, b]) (fun v s' => ∃ r, v = .bool r ∧ Q (.done (.ret (.bool (!r)))) s') E s) : wpAny (model prog w) A (Builtin.«object.__ne__» ⟨[.ref x, b], []⟩) Q E s := by
  obtain ⟨hp, g, d, t, os⟩ := s; unfold Builtin.«object.__ne__»
  repeat (first
    | (refine wpAny_bind (m := callSpecialIfBound? (.ref x) (Str.ofString "__eq__") [b])
        (ifBound_K X I hs hf (wpAny_mono hcall (fun r s' hr => by
          obtain ⟨b, rfl, hq⟩ := hr
          repeat (first | exact wpAny_truthy_bool hq | exact wpAny_pure hq | exact hq | (refine wpAny_bind (m := truthy (.bool _)) (wpAny_truthy_bool ?_)) | wp_step)) fun _ _ e => e)))
    | (with_reducible refine wpAny_cRoomFor hu ?_)
    | wp_step)
theorem ifBound_slot {M : Model} {T id : String} {name : Str} {args : List Value} {Q : Option Value → Shared → Prop} (X : K.In s.heap) (I : InstAt s.heap x ox C od) (hs : findIn K (.ref C) name = some (some (.builtin id))) (sl : Slot T name id)
    (h : wpAny M A (call (.builtin id) (.ref x :: args)) (fun v => Q (some v)) E s) : wpAny M A (callSpecialIfBound? (.ref x) name args) Q E s := by
  simp only [callSpecialIfBound?, bindSpecialIfBound?]; refine wpAny_holding (wpAny_bind (wpAny_bind (wpAny_bind (I.type.here ((looks_findIn X hs).here ?_)))))
  refine wpAny_bind (wpAny_askSetting (wpAny_ite ?_)); have fin : wpAny M A (call (.builtin id) ([.ref x] ++ args) >>= fun v => pure (some v)) Q E s := wpAny_bind (wpAny_mono h (fun v s' h' => wpAny_pure h') fun _ _ h' => h')
  split
  · exact wpAny_bind (wpAny_of_eq (sl.bind _) (wpAny_pure (by exact fin)))
  · exact wpAny_tryCatch (wpAny_bind (wpAny_of_eq (sl.bind _) (wpAny_pure (by exact fin))))
theorem cmpNe_K {bm : List Value} {nm q : Str} {N : Addr} {bs : List Value} {hdct : Bool} {sn : List Str} {sub : List Value} {ab : Bool} {col : Option Bool} {dd : Option Addr} {k0 k1 k2 k3 k5 : Option Value} {newId : String} {Q : Value → Shared → Prop} (hu : A.units + 1 < cLine) (X : K.In s.heap) (I : InstAt s.heap x ox C od)
    (hC : s.heap.get? C = some (excClassObj nm q C N bs bm hdct sn sub ab col dd k0 k1 k2 k3 k5 newId)) (hob : bm.contains (.type "object") = true) (hb : Looks (model prog w) s.heap (typeOf b) (.ref C))
    (hne : findIn K (.ref C) "__ne__" = some (some (.builtin "object.__ne__"))) (hs : findIn K (.ref C) "__eq__" = some (some (.ref f))) (hf : isFn K (.ref f) = true)
    (h : wpAny (model prog w) A.in1 (call (.ref f) [.ref x, b]) (fun v s' => ∃ r, v = .bool r ∧ Q (.bool (!r)) s') E s) : wpAny (model prog w) A (richCompare .NotEq (.ref x) b) Q E s := by
  have one : wpAny (model prog w) A (tryCompare (.ref x) "__ne__" b) (fun r s' => ∃ v, r = some v ∧ Q v s') E s := by
    unfold tryCompare
    refine wpAny_bind (ifBound_slot X I hne F.cmp_object.ne (wpAny_call ?_))
    obtain ⟨hp, g, d, t, os⟩ := s
    refine codeAny_call_builtin F.cmp_object.ne.plain F.cmpEntry_ne (wpAny_check_slot_inst F.cmpKind_ne F.cmpSplit_ne (F.cmpArgs_ne _ _) hob I.at_ I.cls hC (objNe_K (A := A.in1) (by show A.units + 1 < cLine; exact hu) X I hs hf (wpAny_mono h (fun v s' hv => ?_) fun _ _ e => e)))
    obtain ⟨r, rfl, hq⟩ := hv
    exact ⟨r, rfl, wpAny_pure ⟨_, rfl, hq⟩⟩
  unfold richCompare
  simp only [oneThing_ref]
  refine wpAny_holding (wpAny_bind (wpAny_cRoomFor (Nat.lt_of_succ_lt hu) ?_))
  rw [cmpInfo_NotEq]
  dsimp only
  refine wpAny_bind (I.type.here (wpAny_bind (hb.here ?_))); rw [show (Value.ref C != Value.ref C) = false from by simp]
  simp only [Bool.false_eq_true, if_false]; refine wpAny_bind (wpAny_pure ?_)
  simp only [Bool.false_eq_true, if_false]; refine wpAny_bind (wpAny_mono one (fun r s' z => ?_) fun _ _ e => e)
  obtain ⟨v, rfl, hq⟩ := z
  exact wpAny_pure hq
end
end Bc

namespace Bc
open L2 PySem PySem.Spec PyProof.Rows
section
variable {X : Cx} {CX : CXT} {k : Nat} {g C : Addr} {fd : FuncData} {ps : List Str} {sp : Sp} {E : XK}
/-- a call of a method's def, somewhere below the running body -/
theorem run_own (F : FnOk X.prog X.w X.K X.mg X.base CX k g fd ps sp) (hb : Binds X.K fd ps []) (hx : Passes CX X E) {pz : List (Addr × Obj)} {σ : L2.St} {H : Hp} {s : Shared} {A : Around} {Q : VK} {uz : List Value} {vs : List V} (I : Inv X pz σ H s) (hA : Room k A) (hfr : A.frames = X.A.frames)
    (r : Vals vs uz) (h : sp vs H Q E) : wpAny (model X.prog X.w) A (call (.ref g) uz) (EP X pz σ Q) X.xe s := by
  have ez0 : Env0 X.prog X.w X.K X.mg X.base A X.stack s H := by
    have e := I.env0
    exact ⟨by rw [hfr]; exact e.frames, e.mod, e.bs, e.bsz, e.funs, e.frf, e.hok, e.bare⟩
  have hl := F.len _ _ _ _ h
  refine wpAny_call (codeAny_mono (F.run A X.stack s H ⟨uz, []⟩ uz vs Q E hA ez0 (by
    have := hb s uz I.kIn (by rw [List.append_nil, ← r.length]; exact hl)
    simpa using this) r h) fun rr s' hq => ?_)
  cases rr with
  | error e => exact hx pz σ H s e s' I hq
  | ok fl =>
    cases fl with
    | ret w => exact I.after hq
    | next => exact False.elim hq
    | brk => exact False.elim hq
    | cont => exact False.elim hq
/-- what is known of the class's own methods -/
structure OwnM (K : PySem.W.Frag) (C g : Addr) (name : Str) : Prop where
  find : PySem.W.findIn K (.ref C) name = some (some (.ref g))
  fn : PySem.W.isFn K (Value.ref g) = true
/-- len(o) -/
def rLenO (C : Addr) (sp : Sp) (E : XK) : List V → Hp → VK → Prop := fun xs H Q => ∃ a dx fs, xs = [.ref a] ∧ H a = some (.ins C dx fs) ∧ sp [.ref a] H (fun v H' => ∃ n : Nat, v = .int n ∧ (n : Int) < 2 ^ 63 ∧ Q (.int n) H') E
theorem cr_lenO (F : FnOk X.prog X.w X.K X.mg X.base CX k g fd ps sp) (hb : Binds X.K fd ps []) (hx : Passes CX X E) (hr : Room (k + 1) X.A) (o : OwnM X.K C g "__len__") : CallR X (.builtin "len") (rLenO C sp E) := by
  intro pz s σ H xs uz Q I r h
  obtain ⟨a, dx, fs, rfl, ha, hsp⟩ := h
  obtain ⟨u, rfl, ruz⟩ := vals1 r
  cases (show u = Value.ref a from ruz)
  obtain ⟨mAz, J, _⟩ := ins_get I.hok ha
  obtain ⟨od, J, _⟩ := J.look
  obtain ⟨m, hF⟩ := I.fr
  refine PySem.W.len_K hF I.ok.mod.kin J o.find o.fn (wpAny_mono (run_own F hb hx I (A := X.A.in1) hr.in1 rfl r hsp) (fun v s' q => ?_) fun _ _ z => z)
  obtain ⟨v', H', I', rvz, n, rfl, hn, q⟩ := q
  obtain ⟨t, rfl⟩ := rvz
  refine ⟨⟨Int.natCast_nonneg n, hn⟩, ?_⟩
  exact ⟨.int n, H', I'.tok _, ⟨_, rfl⟩, q⟩
/-- x in o, x not in o -/
def rInO (C : Addr) (sp : Sp) (E : XK) (neg : Bool) : R2 := fun x y H Q => ∃ a dx fs, y = .ref a ∧ H a = some (.ins C dx fs) ∧ sp [.ref a, x] H (fun v H' => ∃ b : Bool, v = .bl b ∧ Q (.bl (if neg then !b else b)) H') E
theorem op_inO (F : FnOk X.prog X.w X.K X.mg X.base CX k g fd ps sp) (hb : Binds X.K fd ps []) (hx : Passes CX X E) (hr : Room k X.A) (o : OwnM X.K C g "__contains__") : OpR X (compareOp .In) (rInO C sp E false) := by
  intro pz s σ H x y v u Q I rz ryz h
  obtain ⟨a, dx, fs, rfl, ha, hsp⟩ := h
  cases (show u = Value.ref a from ryz)
  obtain ⟨mAz, J, _⟩ := ins_get I.hok ha
  obtain ⟨od, J, _⟩ := J.look
  obtain ⟨m, hF⟩ := I.fr
  refine PySem.W.in_K hF I.ok.mod.kin J o.find o.fn (wpAny_mono (run_own F hb hx I hr rfl (show Vals [V.ref a, x] [Value.ref a, v] from .cons (show RelV (.ref a) (.ref a) from rfl) (.cons rz .nil)) hsp) (fun w s' q => ?_) fun _ _ z => z)
  obtain ⟨v', H', I', rvz, b, rfl, q⟩ := q
  cases (show w = Value.bool b from rvz)
  exact wpAny_truthy_bool ⟨.bl b, H', I', rfl, q⟩
theorem op_notInO (F : FnOk X.prog X.w X.K X.mg X.base CX k g fd ps sp) (hb : Binds X.K fd ps []) (hx : Passes CX X E) (hr : Room k X.A) (o : OwnM X.K C g "__contains__") : OpR X (compareOp .NotIn) (rInO C sp E true) := by
  intro pz s σ H x y v u Q I rz ryz h
  obtain ⟨a, dx, fs, rfl, ha, hsp⟩ := h
  cases (show u = Value.ref a from ryz)
  obtain ⟨mAz, J, _⟩ := ins_get I.hok ha
  obtain ⟨od, J, _⟩ := J.look
  obtain ⟨m, hF⟩ := I.fr
  refine PySem.W.notIn_K hF I.ok.mod.kin J o.find o.fn (wpAny_mono (run_own F hb hx I hr rfl (show Vals [V.ref a, x] [Value.ref a, v] from .cons (show RelV (.ref a) (.ref a) from rfl) (.cons rz .nil)) hsp) (fun w s' q => ?_) fun _ _ z => z)
  obtain ⟨v', H', I', rvz, b, rfl, q⟩ := q
  cases (show w = Value.bool b from rvz)
  exact wpAny_truthy_bool ⟨.bl (!b), H', I', rfl, q⟩
/-- what the other side of == may be -/
inductive Oth (K : PySem.W.Frag) (C : Addr) (H : Hp) : V → Prop
  | ins {a dx : Addr} {fs : List (Str × V)} : H a = some (.ins C dx fs) → Oth K C H (.ref a)
  | int (i : Int) : PySem.W.notFirst K C (.type "int") = true → Oth K C H (.int i)
  | dict {a : Addr} {kvs : List (Key × V)} : H a = some (.dK kvs) → PySem.W.notFirst K C (.type "dict") = true → Oth K C H (.ref a)
/-- o == y -/
def rEqO (K : PySem.W.Frag) (C : Addr) (sp : Sp) (E : XK) : R2 := fun x y H Q => ∃ a dx fs, x = .ref a ∧ H a = some (.ins C dx fs) ∧ Oth K C H y ∧ sp [.ref a, y] H (fun v H' => ∃ b : Bool, v = .bl b ∧ Q (.bl b) H') E
theorem op_eqO (F : FnOk X.prog X.w X.K X.mg X.base CX k g fd ps sp) (hb : Binds X.K fd ps []) (hx : Passes CX X E) (hr : Room k X.A) (o : OwnM X.K C g "__eq__") : OpR X (compareOp .Eq) (rEqO X.K C sp E) := by
  intro pz s σ H x y v u Q I rz ryz h
  obtain ⟨a, dx, fs, rfl, ha, hy, hsp⟩ := h
  cases (show v = Value.ref a from rz)
  obtain ⟨mAz, J, _⟩ := ins_get I.hok ha
  obtain ⟨od, J, _⟩ := J.look
  obtain ⟨m, hF⟩ := I.fr
  have fin : wpAny (model X.prog X.w) X.A (call (.ref g) [.ref a, u]) (PySem.W.CmpBack (EP X pz σ Q)) X.xe s := wpAny_mono (run_own F hb hx I hr rfl (show Vals [V.ref a, y] [Value.ref a, u] from .cons (show RelV (.ref a) (.ref a) from rfl) (.cons ryz .nil)) hsp) (fun w s' q => by
    obtain ⟨v', H', I', rvz, b, rfl, q⟩ := q
    cases (show w = Value.bool b from rvz)
    exact ⟨.bl b, H', I', rfl, q⟩) fun _ _ z => z
  show wpAny (model X.prog X.w) X.A (richCompare .Eq (.ref a) u) (EP X pz σ Q) X.xe s
  cases hy with
  | @ins b dy gs hb' =>
    cases (show u = Value.ref b from ryz)
    obtain ⟨mBz, J', _⟩ := ins_get I.hok hb'
    obtain ⟨od', J', _⟩ := J'.look; exact PySem.W.cmp_K (op := .Eq) (tb := .ref C) hr.units0 hF I.ok.mod.kin J J'.type (by simp [PySem.W.notFirst]) o.find o.fn fin
  | int i nf =>
    obtain ⟨t, rfl⟩ := ryz
    exact PySem.W.cmp_K (op := .Eq) (tb := .type "int") hr.units0 hF I.ok.mod.kin J PySem.W.Looks.now nf o.find o.fn fin
  | @dict b kvs hb' nf =>
    cases (show u = Value.ref b from ryz)
    obtain ⟨_, _, vs, _, ob, es, ep, h1, h2, _⟩ := (show ObjOk X.prog X.w H s.heap b (.dK kvs) from I.hok b _ hb')
    refine PySem.W.cmp_K (op := .Eq) (tb := .type "dict") hr.units0 hF I.ok.mod.kin J ?_ nf o.find o.fn fin
    have hcls : ob.cls = .type "dict" := h2.1
    exact hcls ▸ (PySem.W.Looks.ld h1).andThen .now
/-- o != p, both of the class -/
def rNeO (C : Addr) (sp : Sp) (E : XK) : R2 := fun x y H Q => ∃ a b dx dy fs gs, x = .ref a ∧ y = .ref b ∧ H a = some (.ins C dx fs) ∧ H b = some (.ins C dy gs) ∧ sp [.ref a, .ref b] H (fun v H' => ∃ r : Bool, v = .bl r ∧ Q (.bl (!r)) H') E
/-- the class's object -/
def ClsObj (K : PySem.W.Frag) (C : Addr) : Prop := ∃ (nm q : Str) (N : Addr) (bs bm : List Value) (hdct : Bool) (sn : List Str) (sub : List Value) (ab : Bool) (col : Option Bool) (dd : Option Addr) (k0 k1 k2 k3 k5 : Option Value) (newId : String),
  K.lookup C = some (excClassObj nm q C N bs bm hdct sn sub ab col dd k0 k1 k2 k3 k5 newId) ∧ bm.contains (.type "object") = true
theorem op_neO (F : FnOk X.prog X.w X.K X.mg X.base CX k g fd ps sp) (hb : Binds X.K fd ps []) (hx : Passes CX X E) (hr : Room (k + 1) X.A) (o : OwnM X.K C g "__eq__") (hne : PySem.W.findIn X.K (.ref C) "__ne__" = some (some (.builtin "object.__ne__"))) (hC : ClsObj X.K C) : OpR X (compareOp .NotEq) (rNeO C sp E) := by
  intro pz s σ H x y v u Q I rz ryz h
  obtain ⟨a, b, dx, dy, fs, gs, rfl, rfl, ha, hb', hsp⟩ := h
  cases (show v = Value.ref a from rz)
  cases (show u = Value.ref b from ryz)
  obtain ⟨mAz, J, _⟩ := ins_get I.hok ha
  obtain ⟨od, J, _⟩ := J.look
  obtain ⟨mBz, J', _⟩ := ins_get I.hok hb'
  obtain ⟨od', J', _⟩ := J'.look; obtain ⟨nm, q, N, bs, bm, hdct, sn, sub, ab, col, dd, k0, k1, k2, k3, k5, newId, hK, hob⟩ := hC
  show wpAny (model X.prog X.w) X.A (richCompare .NotEq (.ref a) (.ref b)) (EP X pz σ Q) X.xe s
  refine cmpNe_K (hu_of hr) I.kIn J (I.kIn _ _ hK) hob J'.type hne o.find o.fn (wpAny_mono (run_own F hb hx I (A := X.A.in1) hr.in1 rfl (show Vals [V.ref a, V.ref b] [Value.ref a, Value.ref b] from .cons (show RelV (.ref a) (.ref a) from rfl) (.cons (show RelV (.ref b) (.ref b) from rfl) .nil)) hsp) (fun w s' q => ?_) fun _ _ z => z)
  obtain ⟨v', H', I', rvz, r, rfl, q⟩ := q
  cases (show w = Value.bool r from rvz)
  exact ⟨r, rfl, .bl (!r), H', I', rfl, q⟩
end
/-! ### == of dicts of data -/
def eqDK (da db : List (Str × PyData)) : Bool := da.length == db.length && da.all fun p => match db.lookup p.1 with | none => false | some d => PyData.eqv p.2 d
theorem hits_data {A : Around} {X : Cx} {pz : List (Addr × Obj)} {σ : L2.St} {H : Hp} {s : Shared} (I : Inv X pz σ H s) (hu : A.in1.units + 64 < cLine) {ls : List (Key × V)} {db : List (Str × PyData)} {vb : List (Key × Value)} (hb : Dk H ls db) (rb : KV ls vb) (sbz : ∀ p ∈ db, SeqAt.shaped p.2 = true) :
    ∀ {ks : List (Key × V)} {da : List (Str × PyData)} {va : List (Key × Value)}, Dk H ks da → KV ks va → (∀ p ∈ da, SeqAt.shaped p.2 = true) → PySem.W.KeqHits A.in1 s vb va (da.all fun p => match db.lookup p.1 with | none => false | some d => PyData.eqv p.2 d)
  | _, _, _, .nil, .nil, _ => .nil
  | _, _, _, .cons (k := k) (d := d) h t, .cons (b := q) r tr, sa => by
    obtain ⟨k', v⟩ := q
    obtain ⟨h1, h2⟩ := r
    have h1' : (Sum.inr k : Key) = k' := h1
    subst h1'
    have ih := hits_data I hu hb rb sbz t tr fun p hp => sa p (List.mem_cons_of_mem _ hp)
    rw [List.all_cons]
    have rr := rb.val (Sum.inr k)
    cases hl : db.lookup k with
    | none =>
      rw [hb.none hl] at rr
      simp only [hl]
      exact .miss rr.none_of
    | some e =>
      obtain ⟨u, hu2, hdt⟩ := hb.get hl
      rw [hu2] at rr
      obtain ⟨y, hy, ryz⟩ := rr.some_of
      obtain ⟨as, r1⟩ := Dp.reads I d _ v (Dt.dp (K := X.K) _ _ h) h2
      obtain ⟨bs, r2⟩ := Dp.reads I e _ y (Dt.dp (K := X.K) _ _ hdt) ryz
      simp only [hl]
      exact .hit hy (PySem.W.keq_at r1 r2 (sa _ List.mem_cons_self) (sbz _ (lookup_mem hl)) hu) ih
section
variable {X : Cx}
def rEqDK : R2 := fun x y H Q => ∃ a b ks ls da db, x = .ref a ∧ y = .ref b ∧ H a = some (.dK ks) ∧ H b = some (.dK ls) ∧ Dk H ks da ∧ Dk H ls db ∧ (∀ p ∈ da, SeqAt.shaped p.2 = true) ∧ (∀ p ∈ db, SeqAt.shaped p.2 = true) ∧ Q (.bl (eqDK da db)) H
def rNeDK : R2 := fun x y H Q => ∃ a b ks ls da db, x = .ref a ∧ y = .ref b ∧ H a = some (.dK ks) ∧ H b = some (.dK ls) ∧ Dk H ks da ∧ Dk H ls db ∧ (∀ p ∈ da, SeqAt.shaped p.2 = true) ∧ (∀ p ∈ db, SeqAt.shaped p.2 = true) ∧ Q (.bl (!eqDK da db)) H
theorem op_eqDK (hu : X.A.in1.units + 64 < cLine) : OpR X (compareOp .Eq) rEqDK := by
  intro pz s σ H x y v u Q I rz ryz h
  obtain ⟨a, b, ks, ls, da, db, rfl, rfl, ea, eb, h1, h2, s1, s2, q⟩ := h
  obtain rfl : v = Value.ref a := rz
  obtain rfl : u = Value.ref b := ryz
  obtain ⟨_, ya, va, ra, dda⟩ := (show ObjOk X.prog X.w H s.heap a (.dK ks) from I.hok a _ ea)
  obtain ⟨_, yb, vb, rb, ddb⟩ := (show ObjOk X.prog X.w H s.heap b (.dK ls) from I.hok b _ eb)
  refine PySem.W.keq_eq (knd := mixKind X.prog X.w) ya yb dda ddb (Nat.lt_of_le_of_lt (by show X.A.units ≤ X.A.units + 1 + 64; omega) hu) (fun _ => hits_data I hu h2 rb s2 h1 ra s1) (fin_bl I q ?_)
  unfold eqDK
  rw [← h1.length, ← h2.length, ra.length, rb.length]
theorem op_neDK (hu : X.A.in1.units + 64 < cLine) : OpR X (compareOp .NotEq) rNeDK := by
  intro pz s σ H x y v u Q I rz ryz h
  obtain ⟨a, b, ks, ls, da, db, rfl, rfl, ea, eb, h1, h2, s1, s2, q⟩ := h
  obtain rfl : v = Value.ref a := rz
  obtain rfl : u = Value.ref b := ryz
  obtain ⟨_, ya, va, ra, dda⟩ := (show ObjOk X.prog X.w H s.heap a (.dK ks) from I.hok a _ ea)
  obtain ⟨_, yb, vb, rb, ddb⟩ := (show ObjOk X.prog X.w H s.heap b (.dK ls) from I.hok b _ eb)
  refine PySem.W.keq_ne (knd := mixKind X.prog X.w) ya yb dda ddb (Nat.lt_of_le_of_lt (by show X.A.units ≤ X.A.units + 1 + 64; omega) hu) (fun _ => hits_data I hu h2 rb s2 h1 ra s1) (fin_bl I q ?_)
  unfold eqDK
  rw [← h1.length, ← h2.length, ra.length, rb.length]
end
end Bc

namespace Bc
open PySem L2 PyProof.Rows StX
/-- more of the class -/
structure Tc (K : PySem.W.Frag) (mg : Str → Option Value) (a : Ad) : Prop where
  tx : Tx K mg a
  oLen : OwnM K a.cNet a.len "__len__"
  oHas : OwnM K a.cNet a.has "__contains__"
  oEq : OwnM K a.cNet a.eq "__eq__"
  ne : PySem.W.findIn K (.ref a.cNet) "__ne__" = some (some (.builtin "object.__ne__"))
  obj : ClsObj K a.cNet
  iC : PySem.W.findIn K (.ref a.cNet) "__class__" = some (some (.builtin "object.__class__"))
  iS : PySem.W.specialIn K (.builtin "object.__class__") "__get__" = some (some (.builtin "getset_descriptor.__get__"))
  iT : PySem.W.takesIn K (.builtin "object.__class__") = some true
  iM : PySem.W.mroIn K a.cNet (.type "object") = some true
  isO : PySem.W.kitOne K (.ref a.cNet) (.ref a.cNet) = some true
  isI : PySem.W.kitOne K (.type "int") (.ref a.cNet) = some false
  isD : PySem.W.kitOne K (.type "dict") (.ref a.cNet) = some false
  nfI : PySem.W.notFirst K a.cNet (.type "int") = true
  nfD : PySem.W.notFirst K a.cNet (.type "dict") = true
theorem kn_f : (List.lookup ("knots" : Str) ([("knots", V.ref ka), ("inlets", V.ref ia), ("outlets", V.ref oa)] : List (Str × V))) = some (V.ref ka) := rfl
theorem in_f : (List.lookup ("inlets" : Str) ([("knots", V.ref ka), ("inlets", V.ref ia), ("outlets", V.ref oa)] : List (Str × V))) = some (V.ref ia) := by
  have e : (("inlets" : Str) == "knots") = false := by decide +kernel
  rw [List.lookup_cons, e]
  rfl
theorem out_f : (List.lookup ("outlets" : Str) ([("knots", V.ref ka), ("inlets", V.ref ia), ("outlets", V.ref oa)] : List (Str × V))) = some (V.ref oa) := by
  have e : (("outlets" : Str) == "knots") = false := by decide +kernel
  have e2 : (("outlets" : Str) == "inlets") = false := by decide +kernel
  rw [List.lookup_cons, e]
  show List.lookup ("outlets" : Str) ([("inlets", V.ref ia), ("outlets", V.ref oa)] : List (Str × V)) = _
  rw [List.lookup_cons, e2]
  rfl
theorem no_f {x : Str} (h1 : (x == "knots") = false) (h2 : (x == "inlets") = false) (h3 : (x == "outlets") = false) : (List.lookup x ([("knots", V.ref ka), ("inlets", V.ref ia), ("outlets", V.ref oa)] : List (Str × V))) = none := by
  rw [List.lookup_cons, h1]
  show List.lookup x ([("inlets", V.ref ia), ("outlets", V.ref oa)] : List (Str × V)) = _
  rw [List.lookup_cons, h2]
  show List.lookup x ([("outlets", V.ref oa)] : List (Str × V)) = _
  rw [List.lookup_cons, h3]
  rfl
section
variable {K : PySem.W.Frag} {σ : L2.St} {H : Hp} {ta : TE}
theorem ev_fld {a C dx : Addr} {fs : List (Str × V)} {f : Str} {v : V} (ha : Ev ta σ H (.ref a)) (h : H a = some (.ins C dx fs)) (c : Cls K C) (n : NoAttr K C f) (hl : fs.lookup f = some v) : Ev (tFld K ta f) σ H v := fun Q q =>
  ha _ fun H1 e1 => ⟨a, C, dx, fs, v, rfl, e1 _ _ h, c, n, hl, q H1 e1⟩
theorem inV_strs {z : Str} : ∀ (l : List Str), inV (.str z) (l.map V.str) = decide (z ∈ l)
  | [] => rfl
  | y :: r => by
    show (eqV (.str y) (.str z) || inV (.str z) (r.map V.str)) = _
    rw [inV_strs r]
    show ((y == z) || _) = _
    by_cases e : y = z
    · subst e
      simp
    · have e2 : ¬ z = y := fun q => e q.symm
      have e3 : (y == z) = false := by simpa using e
      rw [e3]
      simp [e2]
theorem flat_strs (l : List Str) : (l.map V.str).all flatV = true := by
  rw [List.all_map]; exact List.all_eq_true.mpr fun _ _ => rfl
theorem ev_inT {tb : TE} {p : Addr} {z : Str} {os : List Str} (ha : Ev ta σ H (.str z)) (hb : ∀ H', Same H H' → Ev tb σ H' (.ref p)) (h : H p = some (.tup (os.map V.str))) : Ev (tOp (rIn K false) ta tb) σ H (.bl (decide (z ∈ os))) := fun Q q =>
  ha _ fun H1 e1 => hb H1 e1 _ fun H2 e2 => ⟨p, os.map V.str, rfl, .inr (SqT.of (e2 _ _ (e1 _ _ h))), rfl, flat_strs os, by
    show Q (.bl (if false = true then _ else inV _ _)) H2
    rw [if_neg (by decide), inV_strs]
    exact q H2 (e1.trans e2)⟩
end
section
variable {P : Program} {w : World} {K : PySem.W.Frag} {mg : Str → Option Value} {base : Heap} {ad : Ad}
/-! ### len(net) -/
def spLen (C : Addr) : Sp := fun vs H Q _ => ∃ (x : Addr) (ks is : List (Str × PyData)) (os : List Str), vs = [.ref x] ∧ NetAt H C x ks is os ∧ ∀ H', Same H H' → Q (.int (ks.length : Nat)) H'
theorem scLen : FnScope ["self"] ["self"] (defScope sLen) := ⟨rfl, rfl, rfl, by decide +kernel, rfl, by decide +kernel, by decide +kernel⟩
theorem ok_len (T : Tc K mg ad) : FnOk P w K mg base CX0 2 ad.len ad.dLen ["self"] (spLen ad.cNet) := by
  refine T.tx.fLen.ok scLen (fun vs H Q E h => ?_) (fun cdv A outer s H vs Q E hr h => ?_)
  · obtain ⟨x, ks, is, os, rfl, _⟩ := h
    rfl
  · obtain ⟨x, ks, is, os, rfl, n, k⟩ := h
    obtain ⟨dx, ka, ia, oa, kv, iv, h1, h2, h3, h4, h5, h6⟩ := n.ex
    refine ⟨_, pss_one (ps_ret (pe_callB call_lenD (by rfl) T.tx.len PySem.boot_len (pa_cons (pe_fld (pv 0) rfl) pa_nil))), ?_⟩
    refine s_ret (ev_lenD (ev_fld (K := K) (ev_tv rfl) h1 T.tx.cl T.tx.nKnots kn_f) h2) fun H' e => ?_
    rw [h3.length]
    exact k H' e
/-! ### name in net -/
def spHas (C : Addr) : Sp := fun vs H Q _ => ∃ (x : Addr) (z : Key) (ks is : List (Str × PyData)) (os : List Str), vs = [.ref x, kV z] ∧ NetAt H C x ks is os ∧ ∀ H', Same H H' → Q (.bl (match z with
  | .inr z => (ks.lookup z).isSome || decide (z ∈ os)
  | .inl _ => false)) H'
theorem scHas : FnScope ["self", "name"] ["self", "name"] (defScope sHas) := ⟨rfl, rfl, rfl, by decide +kernel, rfl, by decide +kernel, by decide +kernel⟩
theorem Dk.isSome {H : Hp} {kv : List (Key × V)} {ds : List (Str × PyData)} {z : Str} (h : Dk H kv ds) : (valV kv (.inr z)).isSome = (ds.lookup z).isSome := by
  cases q : ds.lookup z with
  | none =>
    rw [h.none q]
    rfl
  | some d =>
    obtain ⟨v, hv, _⟩ := h.get q
    rw [hv]
    rfl
theorem dk_noInt {H : Hp} {i : Int} : ∀ {kv : List (Key × V)} {ds : List (Str × PyData)}, Dk H kv ds → valV kv (.inl i) = none
  | _, _, .nil => rfl
  | _, _, .cons _ k => by
    rw [valV_cons, if_neg (fun e => nomatch e)]
    exact dk_noInt k
theorem inV_int {i : Int} : ∀ (l : List Str), inV (.int i) (l.map V.str) = false
  | [] => rfl
  | y :: r => by
    show (false || inV (.int i) (r.map V.str)) = false
    rw [inV_int r]
    rfl
theorem ev_inTi {K : PySem.W.Frag} {σ : L2.St} {H : Hp} {ta tb : TE} {p : Addr} {i : Int} {os : List Str} (ha : Ev ta σ H (.int i)) (hb : ∀ H', Same H H' → Ev tb σ H' (.ref p)) (h : H p = some (.tup (os.map V.str))) : Ev (tOp (rIn K false) ta tb) σ H (.bl false) := fun Q q =>
  ha _ fun H1 e1 => hb H1 e1 _ fun H2 e2 => ⟨p, os.map V.str, rfl, .inr (SqT.of (e2 _ _ (e1 _ _ h))), rfl, flat_strs os, by
    show Q (.bl (if false = true then _ else inV _ _)) H2
    rw [if_neg (by decide), inV_int]
    exact q H2 (e1.trans e2)⟩
theorem ok_has (T : Tc K mg ad) : FnOk P w K mg base CX0 2 ad.has ad.dHas ["self", "name"] (spHas ad.cNet) := by
  refine T.tx.fHas.ok scHas (fun vs H Q E h => ?_) (fun cdv A outer s H vs Q E hr h => ?_)
  · obtain ⟨x, z, ks, is, os, rfl, _⟩ := h
    rfl
  · obtain ⟨x, z, ks, is, os, rfl, n, k⟩ := h
    obtain ⟨dx, ka, ia, oa, kv, iv, h1, h2, h3, h4, h5, h6⟩ := n.ex
    refine ⟨_, pss_one (ps_ret (pe_or (pe_cmp (pc_din (hu_of hr) (pv 1) (pe_fld (pv 0) rfl)) rfl) (pe_one (pe_cmpR op_in_seq (pv 1) (pe_fld (pv 0) rfl) (by rfl))))), ?_⟩
    cases z with
    | inr z =>
      refine s_ret (Ev.orV (ev_inD (k := .inr z) (ev_tv rfl) (fun H1 e1 => ev_fld (K := K) (ev_tv rfl) (e1 _ _ h1) T.tx.cl T.tx.nKnots kn_f) h2) fun _ H1 e1 => ev_inT (K := K) (ev_tv rfl) (fun H2 e2 => ev_fld (K := K) (ev_tv rfl) (e2 _ _ (e1 _ _ h1)) T.tx.cl T.tx.nOutlets out_f) (e1 _ _ h6)) fun H' e => ?_
      rw [h3.isSome]
      exact k H' e
    | inl i =>
      refine s_ret (Ev.orV (ev_inD (k := .inl i) (ev_tv rfl) (fun H1 e1 => ev_fld (K := K) (ev_tv rfl) (e1 _ _ h1) T.tx.cl T.tx.nKnots kn_f) h2) fun _ H1 e1 => ev_inTi (K := K) (i := i) (ev_tv rfl) (fun H2 e2 => ev_fld (K := K) (ev_tv rfl) (e2 _ _ (e1 _ _ h1)) T.tx.cl T.tx.nOutlets out_f) (e1 _ _ h6)) fun H' e => ?_
      rw [dk_noInt h3]
      exact k H' e
/-! ### net == other -/
def dOs (os : List Str) : PyData := .tuple (os.map PyData.str)
def eqNet (k1 i1 : List (Str × PyData)) (o1 : List Str) (k2 i2 : List (Str × PyData)) (o2 : List Str) : Bool := true && (eqDK k1 k2 && (eqDK i1 i2 && PyData.eqv (dOs o1) (dOs o2)))
structure Shp (ks is : List (Str × PyData)) (os : List Str) : Prop where
  ks : ∀ p ∈ ks, SeqAt.shaped p.2 = true
  is : ∀ p ∈ is, SeqAt.shaped p.2 = true
  os : SeqAt.shaped (dOs os) = true
def spEq (C : Addr) : Sp := fun vs H Q _ => (∃ (x y : Addr) (k1 i1 k2 i2 : List (Str × PyData)) (o1 o2 : List Str), vs = [.ref x, .ref y] ∧ NetAt H C x k1 i1 o1 ∧ NetAt H C y k2 i2 o2 ∧ Shp k1 i1 o1 ∧ Shp k2 i2 o2 ∧ ∀ H', Same H H' → Q (.bl (eqNet k1 i1 o1 k2 i2 o2)) H') ∨
  ∃ (x : Addr) (y : V), vs = [.ref x, y] ∧ ((∃ i, y = .int i) ∨ ∃ a kvs, y = .ref a ∧ H a = some (.dK kvs)) ∧ ∀ H', Same H H' → Q (.bl false) H'
theorem scEq : FnScope ["self", "other"] ["self", "other"] (defScope sEq) := ⟨rfl, rfl, rfl, by decide +kernel, rfl, by decide +kernel, by decide +kernel⟩
theorem ev_eqDK {σ : L2.St} {H : Hp} {ta tb : TE} {a b : Addr} {ks ls : List (Key × V)} {da db : List (Str × PyData)} (ha : Ev ta σ H (.ref a)) (hb : ∀ H', Same H H' → Ev tb σ H' (.ref b)) (h1 : H a = some (.dK ks)) (h2 : H b = some (.dK ls)) (d1 : Dk H ks da) (d2 : Dk H ls db) (s1 : ∀ p ∈ da, SeqAt.shaped p.2 = true) (s2 : ∀ p ∈ db, SeqAt.shaped p.2 = true) :
    Ev (tOp rEqDK ta tb) σ H (.bl (eqDK da db)) := fun Q q => ha _ fun H1 e1 => hb H1 e1 _ fun H2 e2 => ⟨a, b, ks, ls, da, db, rfl, rfl, e2 _ _ (e1 _ _ h1), e2 _ _ (e1 _ _ h2), d1.go (e1.trans e2), d2.go (e1.trans e2), s1, s2, q H2 (e1.trans e2)⟩
theorem ev_eqD {K : PySem.W.Frag} {σ : L2.St} {H : Hp} {ta tb : TE} {x y : V} {d e : PyData} (ha : Ev ta σ H x) (hb : ∀ H', Same H H' → Ev tb σ H' y) (h1 : Dt H x d) (h2 : Dt H y e) (s1 : SeqAt.shaped d = true) (s2 : SeqAt.shaped e = true) :
    Ev (tOp (rEqD K) ta tb) σ H (.bl (PyData.eqv d e)) := fun Q q => ha _ fun H1 e1 => hb H1 e1 _ fun H2 e2 => ⟨d, e, Dt.dp _ _ (h1.go (e1.trans e2)), Dt.dp _ _ (h2.go (e1.trans e2)), s1, s2, q H2 (e1.trans e2)⟩
theorem Same.of_isi {K : PySem.W.Frag} {σ : L2.St} {H : Hp} {ta : TE} {x : V} {C : Addr} {t : Value} {b : Bool} (ha : Ev ta σ H x) (hty : ∀ H', Same H H' → TyX K H' x t) (hk : PySem.W.kitOne K t (.ref C) = some b) : Ev (tCB (rIsi K) (tCons ta (tCons (tC (.ref C)) tNil))) σ H (.bl b) :=
  fun Q q => ha _ fun H' e => ⟨x, .ref C, t, .ref C, b, rfl, .own C, hty H' e, hk, q H' e⟩
theorem in1u {k : Nat} {A : Around} (hr : Room k A) : A.in1.units + 64 < cLine := by
  have := hr.un
  show A.units + 1 + 64 < cLine
  omega
theorem ok_eq (T : Tc K mg ad) : FnOk P w K mg base CX0 3 ad.eq ad.dEq ["self", "other"] (spEq ad.cNet) := by
  refine T.tx.fEq.ok scEq (fun vs H Q E h => ?_) (fun cdv A outer s H vs Q E hr h => ?_)
  · rcases h with ⟨x, y, k1, i1, k2, i2, o1, o2, rfl, _⟩ | ⟨x, y, rfl, _⟩
    · rfl
    · rfl
  · refine ⟨_, pss_one (ps_ret (pe_and (pe_isi rfl T.tx.isinstance (pv 1) (pe_glob (v := .ref ad.cNet) (by rfl) T.tx.gNet rfl)) (pe_and (pe_cmpR (op_eqDK (in1u hr)) (pe_fld (pv 0) rfl) (pe_fld (pv 1) rfl) (nomark _)) (pe_and (pe_cmpR (op_eqDK (in1u hr)) (pe_fld (pv 0) rfl) (pe_fld (pv 1) rfl) (nomark _))
      (pe_one (pe_cmpR (op_eqD hr.units) (pe_fld (pv 0) rfl) (pe_fld (pv 1) rfl) (nomark _))))))), ?_⟩
    rcases h with ⟨x, y, k1, i1, k2, i2, o1, o2, rfl, n1, n2, p1, p2, k⟩ | ⟨x, y, rfl, hy, k⟩
    · obtain ⟨dx, ka, ia, oa, kv, iv, h1, h2, h3, h4, h5, h6⟩ := n1.ex
      obtain ⟨dy, kb, ib, ob, kw, iw, g1, g2, g3, g4, g5, g6⟩ := n2.ex
      refine s_ret (Ev.andV (a := true) (Same.of_isi (ev_tv rfl) (fun H' e => .base (.ins (e _ _ g1) T.tx.cl T.iC T.iS T.iT T.iM)) T.isO) fun _ H1 e1 => Ev.andV (ev_eqDK (ev_fld (K := K) (ev_tv rfl) (e1 _ _ h1) T.tx.cl T.tx.nKnots kn_f) (fun H2 e2 => ev_fld (K := K) (ev_tv rfl) (e2 _ _ (e1 _ _ g1)) T.tx.cl T.tx.nKnots kn_f) (e1 _ _ h2) (e1 _ _ g2) (h3.go e1) (g3.go e1) p1.ks p2.ks)
        fun _ H2 e2 => Ev.andV (ev_eqDK (ev_fld (K := K) (ev_tv rfl) (e2 _ _ (e1 _ _ h1)) T.tx.cl T.tx.nInlets in_f) (fun H3 e3 => ev_fld (K := K) (ev_tv rfl) (e3 _ _ (e2 _ _ (e1 _ _ g1))) T.tx.cl T.tx.nInlets in_f) (e2 _ _ (e1 _ _ h4)) (e2 _ _ (e1 _ _ g4)) (h5.go (e1.trans e2)) (g5.go (e1.trans e2)) p1.is p2.is)
        fun _ H3 e3 => ev_eqD (K := K) (d := dOs o1) (e := dOs o2) (ev_fld (K := K) (ev_tv rfl) (e3 _ _ (e2 _ _ (e1 _ _ h1))) T.tx.cl T.tx.nOutlets out_f) (fun H4 e4 => ev_fld (K := K) (ev_tv rfl) (e4 _ _ (e3 _ _ (e2 _ _ (e1 _ _ g1)))) T.tx.cl T.tx.nOutlets out_f)
          (.tup (e3 _ _ (e2 _ _ (e1 _ _ h6))) (Dts.strs o1)) (.tup (e3 _ _ (e2 _ _ (e1 _ _ g6))) (Dts.strs o2)) p1.os p2.os) fun H' e => k H' e
    · have isno : ∀ H1, Same H H1 → Ev (tCB (rIsi K) (tCons (tVar 1) (tCons (tC (.ref ad.cNet)) tNil))) [some (.ref x), some y] H1 (.bl false) := fun H1 e1 => by
        rcases hy with ⟨i, rfl⟩ | ⟨a, kvs, rfl, ha⟩
        · exact Same.of_isi (ev_tv rfl) (fun H' e => .base (.int i)) T.isI
        · exact Same.of_isi (ev_tv rfl) (fun H' e => .base (.dK (e _ _ (e1 _ _ ha)))) T.isD
      refine s_ret (Ev.andV (a := false) (b := false) (isno H (Same.refl H)) fun z => nomatch z) fun H' e => k H' e
/-! ### net.start() -/
def zeros (zs : List Str) : List (Key × V) := zs.map fun z => (.inr z, .int 0)
def spStart (C : Addr) : Sp := fun vs H Q _ => ∃ (x : Addr) (ks is : List (Str × PyData)) (os : List Str), vs = [.ref x] ∧ NetAt H C x ks is os ∧ (ks.map fun p => p.1).Nodup ∧ ks.length ≤ 1000 ∧
  ∀ p H', H p = none → Same H H' → H' p = some (.dK (zeros (ks.map fun p => p.1))) → Q (.ref p) H'
theorem scStart : FnScope ["self", "knot"] ["self"] (defScope sStart) := ⟨rfl, rfl, rfl, by decide +kernel, rfl, by decide +kernel, by decide +kernel⟩
theorem ok_start (T : Tc K mg ad) : FnOk P w K mg base CX0 2 ad.start ad.dStart ["self"] (spStart ad.cNet) := by
  refine T.tx.fStart.ok scStart (fun vs H Q E h => ?_) (fun cdv A outer s H vs Q E hr h => ?_)
  · obtain ⟨x, ks, is, os, rfl, _⟩ := h
    rfl
  · obtain ⟨x, ks, is, os, rfl, n, nd, few, k⟩ := h
    obtain ⟨dx, ka, ia, oa, kv, iv, h1, h2, h3, h4, h5, h6⟩ := n.ex
    refine ⟨_, pss_one (ps_ret (pe_lock (pe_dc (own := [("knot", 1)]) (g := gName 1) (tt := tYes) rfl scStart.nd (pi_keys (pe_fld (pv 0) rfl)) (blkOk_by (N := ["self", "knot"]) (sc := defScope sStart) (by decide +kernel))
      (fun _ _ _ _ _ => pg_name (i := 1) scStart.nd rfl (Or.inl rfl)) (fun _ _ _ _ _ => pts_nil) (fun _ _ _ _ _ => pv 1) (fun _ _ _ _ _ => pe_int)))), ?_⟩
    have xka : x ≠ ka := ne_of h1 h2 (by intro z; cases z)
    refine ⟨ka, _, h2, True.intro, fun od => ?_⟩
    refine ⟨_, rfl, x, ad.cNet, dx, _, _, rfl, (by rw [upd_ne xka]; exact h1), T.tx.cl, T.tx.nKnots, kn_f, ?_⟩
    refine ⟨ka, od, rfl, .inl ⟨kv, upd_same, fun D hD => ?_⟩⟩
    have hkeys := h3.keys
    have kvl := h3.length
    have at_ : ∀ i, i < kv.length → ∃ z v, (ks.map fun p => p.1)[i]? = some z ∧ kv[i]? = some ((.inr z : Key), v) := fun i hi => by
      have e : (kv.map fun p => p.1)[i]? = ((ks.map fun p => p.1).map Sum.inr)[i]? := by rw [hkeys]
      rw [List.getElem?_map, List.getElem?_map] at e
      have hi2 : i < (ks.map fun p => p.1).length := by rw [List.length_map, ← kvl]; exact hi
      rw [List.getElem?_eq_getElem hi, List.getElem?_eq_getElem hi2] at e
      have e2 : kv[i].1 = Sum.inr (ks.map fun p => p.1)[i] := Option.some.inj e
      refine ⟨_, kv[i].2, List.getElem?_eq_getElem hi2, ?_⟩
      rw [List.getElem?_eq_getElem hi, ← e2]
    have inj : ∀ i i', i < kv.length → i' < kv.length → (((ks.map fun p => p.1)[i]?.map Sum.inr).getD (.inl 0) : Key) = ((ks.map fun p => p.1)[i']?.map Sum.inr).getD (.inl 0) → i = i' := fun i i' hi hi' e => by
      obtain ⟨z, v, q1, _⟩ := at_ i hi
      obtain ⟨z', v', q2, _⟩ := at_ i' hi'
      rw [q1, q2] at e
      have ez : z = z' := Sum.inr.inj (show (Sum.inr z : Key) = Sum.inr z' from e)
      subst ez
      exact nd_ix nd q1 q2
    refine dc_vals (walk_keys (d := ka) (o := od) (kvs := kv)) (fun i => (((ks.map fun p => p.1)[i]?.map Sum.inr).getD (.inl 0) : Key)) (fun _ => .int 0) hD (by omega) (fun H2 e2 => e2 _ _ upd_same) (fun _ => rfl) inj (fun i y H2 H3 hi e2 hy => ?_) (fun H2 e2 hl => ?_)
    · obtain ⟨rfl, kk, v, hk, rfl⟩ := hy
      obtain ⟨z, v', q1, q2⟩ := at_ i hi
      rw [q2] at hk
      injection hk with hk
      injection hk with hk1 hk2
      subst hk1
      refine ⟨Same.refl _, ?_, fun _ _ => ev_tc⟩
      show Ev _ _ _ (kV (((ks.map fun p => p.1)[i]?.map Sum.inr).getD (.inl 0)))
      rw [q1]
      exact ev_tv rfl
    · have Dka : D ≠ ka := fun z => by
        rw [z, upd_same] at hD
        cases hD
      have HD : H D = none := by
        rw [upd_ne Dka] at hD
        exact hD
      refine ⟨e2 _ _ upd_same, k D _ HD (same_unlock h2 e2) ?_⟩
      rw [upd_ne Dka, hl]
      congr 2
      unfold zeros
      refine List.ext_getElem? fun i => ?_; rw [List.getElem?_map, List.getElem?_map]
      by_cases hi : i < kv.length
      · obtain ⟨z, v, q1, _⟩ := at_ i hi
        rw [List.getElem?_range hi, q1]
        show some (_, _) = _
        rw [q1]
        rfl
      · rw [List.getElem?_eq_none_iff.mpr (by rw [List.length_range]; omega), List.getElem?_eq_none_iff.mpr (by rw [List.length_map]; omega)]
        rfl
end
end Bc

namespace Bc
open PySem L2 PyProof.Rows StX
section
variable {P : Program} {w : World} {K : PySem.W.Frag} {mg : Str → Option Value} {base : Heap} {ad : Ad}
theorem el_if {t : TT} {ta tb : TE} {σ : L2.St} {H : Hp} {b : Bool} {xs : List V} (h : EvB t σ H b) (h1 : b = true → ∀ H', Same H H' → EvL ta σ H' xs) (h2 : b = false → ∀ H', Same H H' → EvL tb σ H' xs) : EvL (tIf t ta tb) σ H xs := fun Q q => h _ fun H1 e1 => by
  cases b with
  | true => exact iteT (h1 rfl H1 e1 _ fun p H2 hp e2 hx => q p H2 (e1.free hp) (e1.trans e2) hx)
  | false => exact iteF (h2 rfl H1 e1 _ fun p H2 hp e2 hx => q p H2 (e1.free hp) (e1.trans e2) hx)
theorem ev_int1 {ta : TE} {σ : L2.St} {H : Hp} {i : Int} (ha : Ev ta σ H (.int i)) : Ev (tCB (fun xs H Q => (∃ i : Int, xs = [V.int i] ∧ Q (.int i) H) ∨ ∃ k : Bool, xs = [V.bl k] ∧ Q (.int (if k then 1 else 0)) H) (tCons ta tNil)) σ H (.int i) := fun Q q => ha _ fun H1 e1 => .inl ⟨i, rfl, q H1 e1⟩
theorem ev_ixL {K : PySem.W.Frag} {ta tb : TE} {σ : L2.St} {H : Hp} {p : Addr} {xs : List V} {i : Nat} {v : V} (ha : Ev ta σ H (.ref p)) (hb : ∀ H', Same H H' → Ev tb σ H' (.int (i : Nat))) (h : H p = some (.lst xs)) (hv : xs[i]? = some v) : Ev (tOp (rIxL K) ta tb) σ H v := fun Q q =>
  ha _ fun H1 e1 => hb H1 e1 _ fun H2 e2 => ⟨p, xs, i, v, rfl, rfl, SqL.of (e2 _ _ (e1 _ _ h)), atI_nat hv, q H2 (e1.trans e2)⟩
theorem q_par {i j : Nat} {ta : TA} {u : TS} {D : Ends} {σ : L2.St} {H : Hp} {v w : V} (h : EvA ta σ H [v, w]) (k : ∀ H', Same H H' → u D ((σ.set i (some v)).set j (some w)) H') : tSeq (tPar i j ta) u D σ H := h _ fun H1 e1 => ⟨v, w, rfl, k H1 e1⟩
theorem s_forR1 {ta : TA} {tb : TS} {D : Ends} {σ : L2.St} {H : Hp} {j : Nat} {n : Nat} (h : EvA ta σ H [.int (n : Nat)]) (hn : n ≤ 1000000) (Pv : Nat → L2.St → Hp → Prop) (h0 : ∀ H', Same H H' → Pv 0 σ H')
    (hs : ∀ i σ' H', i < n → Pv i σ' H' → tb { D with nx := Pv (i + 1), ct := Pv (i + 1), bk := D.nx } (σ'.set j (some (.int (i : Nat)))) H') (hd : ∀ σ' H', Pv n σ' H' → D.nx σ' H') : tFor (iRng1 ta) (gName j) tb D σ H :=
  h _ fun H1 e1 => ⟨n, rfl, by omega, by omega, by
    have e : ((n : Nat) : Int).toNat = n := by omega
    rw [e]
    refine for_it walk_range Pv (h0 H1 e1) (fun _ _ _ _ _ => True.intro) (fun i x σ' H2 H3 hi q y => ?_) hd
    obtain ⟨rfl, rfl⟩ := y
    have z := hs i σ' _ hi q
    show tb _ (σ'.set j (some (.int (0 + (i : Nat))))) _
    rw [Int.zero_add]
    exact z⟩
theorem q_forR1 {ta : TA} {tb u : TS} {D : Ends} {σ : L2.St} {H : Hp} {j : Nat} {n : Nat} (h : EvA ta σ H [.int (n : Nat)]) (hn : n ≤ 1000000) (Pv : Nat → L2.St → Hp → Prop) (h0 : ∀ H', Same H H' → Pv 0 σ H')
    (hs : ∀ i σ' H', i < n → Pv i σ' H' → tb { D with nx := Pv (i + 1), ct := Pv (i + 1), bk := u D } (σ'.set j (some (.int (i : Nat)))) H') (hd : ∀ σ' H', Pv n σ' H' → u D σ' H') : tSeq (tFor (iRng1 ta) (gName j) tb) u D σ H := s_forR1 (D := { D with nx := u D }) h hn Pv h0 hs hd
theorem s_asg {te : TE} {D : Ends} {σ : L2.St} {H : Hp} {i : Nat} {v : V} (h : Ev te σ H v) (k : ∀ H', Same H H' → D.nx (σ.set i (some v)) H') : tAsg te (gName i) D σ H := h _ fun H' e => k H' e
theorem Same.seqL {K : PySem.W.Frag} {H H' : Hp} {a : Addr} {xs : List V} (e : Same H H') (h : SqL K H a xs) : SqL K H' a xs := L2.Same.seq e h
theorem dpAll_ints {K : PySem.W.Frag} {H : Hp} : ∀ ns : List Int, DpAll K H (ns.map V.int) (ns.map PyData.int)
  | [] => .nil
  | i :: r => .cons (.int i) (dpAll_ints r)
/-! ### _law_draw: some number below many -/
def spDraw (K : PySem.W.Frag) : Sp := fun vs H Q _ => ∃ (s : Addr) (ns : List Int) (at_ many : Nat), vs = [.ref s, .int at_, .int many] ∧ SqL K H s (ns.map V.int) ∧ ns.length ≤ 63 ∧ at_ ≤ 100000 ∧ 1 ≤ many ∧ many ≤ 100000 ∧
  ∀ (r : Nat) H', Same H H' → r < many → Q (.int r) H'
theorem scDraw : FnScope ["script", "at", "many", "row", "cell", "turn", "step", "mixed"] ["script", "at", "many"] (defScope sDraw) := ⟨rfl, rfl, rfl, by decide +kernel, rfl, by decide +kernel, by decide +kernel⟩
theorem ok_draw (T : Tx K mg ad) : FnOk P w K mg base CX0 2 ad.draw ad.dDraw ["script", "at", "many"] (spDraw K) := by
  refine T.fDraw.ok scDraw (fun vs H Q E h => ?_) (fun cdv A outer s H vs Q E hr h => ?_)
  · obtain ⟨sa, ns, at_, many, rfl, _⟩ := h
    rfl
  · obtain ⟨sa, ns, at_, many, rfl, hS, hl, hat, hm1, hm2, k⟩ := h
    refine ⟨_, pss_cons (ps_set (i := 3) scDraw.nd rfl (.inl rfl) (pe_ifExp (pt_cmpR (op_neD hr.units) (pv 0) (pe_lst pa_nil) (nomark _)) (pe_slice sl_list (pv 0) po_none (po_some pe_int)) (pe_lst (pa_cons pe_int pa_nil))))
      (pss_cons (ps_par (i := 4) (j := 5) rfl scDraw.nd rfl rfl (by decide) rfl rfl (pa_cons (pe_ix ix_list (pv 3) (pe_op op_mod (pv 1) (pe_callB call_len_seq (by rfl) T.len PySem.boot_len (pa_cons (pv 3) pa_nil))) (fun _ _ => rfl)) (pa_cons (pe_op op_fdiv (pv 1) (pe_callB call_len_seq (by rfl) T.len PySem.boot_len (pa_cons (pv 3) pa_nil))) pa_nil)) rfl)
      (pss_cons (ps_if (pt_cmpR op_ge (pv 4) (pe_op op_pow pe_int pe_int) (nomark _))
        (pss_cons (ps_set (i := 4) scDraw.nd rfl (.inl rfl) (pe_op op_mod (pe_callTy call_int1 (by rfl) T.int b_int (pa_cons (pv 4) pa_nil)) (pe_op op_pow pe_int pe_int)))
        (pss_cons (ps_for PassesOwn.never rfl (pi_range1 (by rfl) T.range (pa_cons (pe_op op_mod (pv 5) pe_int) pa_nil)) (pg_name (i := 6) scDraw.nd rfl (.inl rfl)) (pss_one (ps_set (i := 4) scDraw.nd rfl (.inl rfl) (pe_op op_fdiv (pv 4) pe_int))))
        (pss_one (ps_ret (pe_op op_mod (pe_op op_mod (pe_callTy call_int1 (by rfl) T.int b_int (pa_cons (pv 4) pa_nil)) pe_int) (pv 2)))))) pss_nil)
      (pss_cons (ps_set (i := 7) scDraw.nd rfl (.inl rfl) (pe_op op_add (pe_op op_mul (pe_op op_add (pe_op op_add (pe_op op_mod (pe_callTy call_int1 (by rfl) T.int b_int (pa_cons (pe_op op_add (pv 4) (pe_op op_mul pe_int (pv 5))) pa_nil)) pe_int) (pe_op op_mul pe_int (pv 1))) pe_int) pe_int)
          (pe_op op_mod (pe_callTy call_int1 (by rfl) T.int b_int (pa_cons (pe_op op_fdiv (pv 4) pe_int) pa_nil)) pe_int)))
      (pss_one (ps_ret (pe_op op_mod (pe_callTy call_int1 (by rfl) T.int b_int (pa_cons (pe_op op_mod (pe_op op_mul (pe_op op_mod (pv 7) pe_int) pe_int) pe_int) pa_nil)) (pv 2))))))), ?_⟩
    have hrow : ∃ xs : List Int, xs ≠ [] ∧ xs.length ≤ 63 ∧ ∀ K' : PySem.W.Frag, K' = K → EvL (tIf (tTest (tOp (rNeD K') (tVar 0) (tLst tNil))) (tSl (rSlL K') (tVar 0) tNoPart (tPart (tC (.int 60)))) (tLst (tCons (tC (.int 7)) tNil))) [some (.ref sa), some (.int at_), some (.int many), none, none, none, none, none] H (xs.map V.int) := by
      have test : ∀ K' : PySem.W.Frag, K' = K → EvB (tTest (tOp (rNeD K') (tVar 0) (tLst tNil))) [some (.ref sa), some (.int at_), some (.int many), none, none, none, none, none] H (!PyData.eqv (.list (ns.map PyData.int)) (.list [])) := fun K' hK Q q => by
        subst hK
        refine ⟨_, rfl, Nat.zero_le _, fun p hp => ⟨.list (ns.map PyData.int), .list [], .lst (Same.seqL (same_upd hp) hS) (dpAll_ints ns), .lst (SqL.of upd_same) .nil, ?_, by decide +kernel, _, rfl, q _ (same_upd hp)⟩⟩
        exact PySem.W.ke_shaped_ints ns
      cases ns with
      | nil =>
        refine ⟨[7], by decide, by decide, fun K' hK => el_if (test K' hK) (fun z => nomatch z) fun _ H1 e1 Q q => ⟨by decide, fun p hp => q p _ hp (same_upd hp) upd_same⟩⟩
      | cons n r =>
        refine ⟨(n :: r).take 60, by simp, by rw [List.length_take]; omega, fun K' hK => el_if (test K' hK) (fun _ H1 e1 Q q => ?_) (fun z => nomatch z)⟩
        subst hK
        refine ⟨_, rfl, ⟨_, rfl, sa, (n :: r).map V.int, rfl, Same.seqL e1 hS, fun p hp => ?_⟩⟩
        have e : cutV ((n :: r).map V.int) none (some 60) = ((n :: r).take 60).map V.int := by
          show (((n :: r).map V.int).drop 0).take (HT.sIx _ _ (some ((60 : Nat) : Int)) - 0) = _
          rw [HT.sIx_nat, List.drop_zero, Nat.sub_zero, ← List.map_take]
          congr 1
          rw [List.length_map]
          rcases Nat.le_total 60 (n :: r).length with h | h
          · rw [Nat.min_eq_left h]
          · rw [Nat.min_eq_right h, List.take_of_length_le (Nat.le_refl _), List.take_of_length_le h]
        rw [e]
        exact q p _ hp (same_upd hp) upd_same
    obtain ⟨xs, hne, hxl, hev⟩ := hrow
    have pos : 0 < xs.length := List.length_pos_iff.mpr hne
    refine q_asgL (hev _ rfl) fun p H1 hp e1 hx => ?_
    have hlenE : ∀ H2, Same H1 H2 → Ev (tCB (rLen K) (tCons (tVar 3) tNil)) [some (.ref sa), some (.int at_), some (.int many), some (.ref p), none, none, none, none] H2 (.int ((xs.map V.int).length : Int)) := fun H2 e2 => ev_lenL (ev_tv rfl) (e2 _ _ hx)
    have hmod : at_ % xs.length < xs.length := Nat.mod_lt _ pos
    have hxs : xs[at_ % xs.length]? = some xs[at_ % xs.length] := List.getElem?_eq_getElem hmod
    refine q_par (v := .int xs[at_ % xs.length]) (w := .int ((at_ / xs.length : Nat) : Int)) (ea_cons (ev_ixL (K := K) (i := at_ % xs.length) (ev_tv rfl) (fun H2 e2 => ev_is (ev_I (ev_tv rfl) (fun H3 e3 => hlenE H3 (e2.trans e3)) (by rw [List.length_map]; omega)) (by rw [List.length_map]; exact congrArg V.int (by omega))) hx (by rw [List.getElem?_map, hxs]; rfl)) fun H2 e2 =>
      ea_cons (ev_is (ev_I (ev_tv rfl) (fun H3 e3 => hlenE H3 (e2.trans e3)) (by rw [List.length_map]; exact ⟨by omega, by omega⟩)) (by rw [List.length_map]; exact congrArg V.int (by omega))) fun _ _ => ea_nil) fun H2 e2 => ?_
    generalize xs[at_ % xs.length] = cell
    have hturn : at_ / xs.length ≤ 100000 := Nat.le_trans (Nat.div_le_self _ _) hat
    generalize at_ / xs.length = turn at hturn
    have t18 : ∀ H3, EvB (tTest (tOp (rI0 fun i j => .bl (decide (j ≤ i))) (tVar 4) (tOp (rI CPow fun i j => .int (i ^ j.toNat)) (tC (.int 10)) (tC (.int 18))))) [some (.ref sa), some (.int at_), some (.int many), some (.ref p), some (.int cell), some (.int (turn : Nat)), none, none] H3 (decide ((10 : Int) ^ (18 : Int).toNat ≤ cell)) := fun H3 => EvB.of' (ev_I0 (ev_tv rfl) fun _ _ => ev_I ev_tc (fun _ _ => ev_tc) ⟨by decide, by decide, by decide⟩)
    have fin : ∀ z : Int, ∀ H4, Same H H4 → Q (.int (z % (many : Nat))) H4 := fun z H4 e4 => by
      have h0 : 0 ≤ z % (many : Nat) := Int.emod_nonneg _ (by omega)
      have h1 : z % (many : Nat) < (many : Nat) := Int.emod_lt_of_pos _ (by omega)
      have e : z % (many : Nat) = ((z % (many : Nat)).toNat : Int) := by omega
      rw [e]
      exact k _ H4 e4 (by omega)
    by_cases hc : (10 : Int) ^ (18 : Int).toNat ≤ cell
    · refine if_yes (evb_is (t18 H2) (decide_eq_true hc)) fun H3 e3 => ?_
      refine q_asg (ev_I (ev_int1 (ev_tv rfl)) (fun _ _ => ev_I ev_tc (fun _ _ => ev_tc) ⟨by decide, by decide, by decide⟩) (by decide)) fun H4 e4 => ?_
      refine q_forR1 (n := turn % 40) (ea_cons (ev_is (ev_I (ev_tv rfl) (fun _ _ => ev_tc) (by decide)) (congrArg V.int (by omega))) fun _ _ => ea_nil) (by omega) (fun i σ H' => ∃ c x6, σ = [some (.ref sa), some (.int at_), some (.int many), some (.ref p), some (.int c), some (.int (turn : Nat)), x6, none] ∧ Same H4 H')
        (fun H' e => ⟨_, none, rfl, e⟩) (fun i σ' H' hi q => ?_) (fun σ' H' q => ?_)
      · obtain ⟨c, x6, rfl, e5⟩ := q
        exact s_asg (ev_I (ev_tv rfl) (fun _ _ => ev_tc) ⟨by decide, by decide⟩) fun H6 e6 => ⟨_, _, rfl, e5.trans e6⟩
      · obtain ⟨c, x6, rfl, e5⟩ := q
        refine s_ret (ev_I (ev_I (ev_int1 (ev_tv rfl)) (fun _ _ => ev_tc) (by decide)) (fun _ _ => ev_tv rfl) (by omega)) fun H6 e6 => fin _ H6 (e1.trans (e2.trans (e3.trans (e4.trans (e5.trans e6)))))
    · refine q_no (evb_is (t18 H2) (decide_eq_false hc)) fun H3 e3 => ?_
      refine q_asg (ev_I0 (ev_I (ev_I0 (ev_I0 (ev_I (ev_int1 (ev_I0 (ev_tv rfl) fun _ _ => ev_I ev_tc (fun _ _ => ev_tv rfl) (.inl ⟨by decide, by decide⟩))) (fun _ _ => ev_tc) (by decide)) fun _ _ => ev_I ev_tc (fun _ _ => ev_tv rfl) (.inl ⟨by decide, by decide⟩)) fun _ _ => ev_tc) (fun _ _ => ev_tc) (.inr ⟨by decide, by decide⟩))
        fun _ _ => ev_I (ev_int1 (ev_I (ev_tv rfl) (fun _ _ => ev_tc) ⟨by decide, by decide⟩)) (fun _ _ => ev_tc) (by decide)) fun H4 e4 => ?_
      refine s_ret (ev_I (ev_int1 (ev_I (ev_I (ev_I (ev_tv rfl) (fun _ _ => ev_tc) (by decide)) (fun _ _ => ev_tc) (.inr ⟨by decide, by decide⟩)) (fun _ _ => ev_tc) (by decide))) (fun _ _ => ev_tv rfl) (by omega)) fun H6 e6 => fin _ H6 (e1.trans (e2.trans (e3.trans (e4.trans e6))))
end
end Bc

/-! enumerate(text), list(text), list(reversed(list)) -/
namespace Bc
open PySem PySem.Spec L2 PyProof.Rows
/-- the signs of a text, each in a new pair with itz place -/
def ItE (x : Str) : It := ⟨fun i _ => i < x.cps.size, fun i H v H' => ∃ T c, v = .ref T ∧ H T = none ∧ x.cps[i]? = some c ∧ H' = upd H T (.tup [.int (i : Nat), .str ⟨#[c]⟩]), fun i _ => i = x.cps.size⟩
theorem turn_enumS {P : Program} {w : World} {K : PySem.W.Frag} {elts : List Expr} {kk : Nat} {tpos : Pos} (x : Str) (t : Tok) (ty : String) (hty : ty = "str_ascii_iterator" ∨ ty = "str_iterator") (e it : Addr) :
    Turn P w K (.Tuple elts kk tpos) (ItE x) [e, it] e (fun i h => (∃ oldz, IsEnum h e it ((i : Nat) : Int) oldz) ∧ h.IsStrIter it ty x t i ∧ e ≠ it) where
  mem := by simp
  obj := fun i h st b hb => by
    obtain ⟨⟨oldz, he⟩, ⟨o, ho, hc, hd⟩, _⟩ := st
    have e' : b = e ∨ b = it := (by simpa using hb); rcases e' with z | z
    · rw [z]; exact ⟨_, he, fun v q => by cases q⟩
    · rw [z]; exact ⟨o, ho, fun v q => by cases hd.symm.trans q⟩
  keep := fun i h h' st k => let ⟨⟨oldz, he⟩, ⟨o, ho, r⟩, hne⟩ := st; ⟨⟨oldz, k e (by simp) _ he⟩, ⟨o, k it (by simp) o ho, r⟩, hne⟩
  item := by
    intro X hP hw hK hc i pz s σ H E I hf st hg
    subst hP hw hK
    obtain ⟨⟨oldz, he⟩, hitz, hne⟩ := st
    have hltz : i < x.cps.size := hg
    have helz : e < s.heap.objs.size := Heap.lt_size he
    have hilz : it < s.heap.objs.size := by obtain ⟨_, q, _⟩ := hitz; exact Heap.lt_size q
    have D : Draws X.prog X.w X.A.in1 it [it] x.cps.size (fun i v => ∃ c u, x.cps[i]? = some c ∧ v = .str ⟨#[c]⟩ u) (fun i h => h.IsStrIter it ty x t i) := by
      have hh : X.A.in1.handled = none := I.ok.hd hc
      rcases hty with rfl | rfl
      · exact Draws.strAscii hh it x t
      · exact Draws.strWide hh it x t
    refine wpAny_pyNext_enum_itemD D he hitz hltz hne (by simpa using hne) fun v h' tk hv ho hit' hTz hsz hk => ?_
    obtain ⟨c, u, hcx, rfl⟩ := hv
    refine ⟨_, rfl, wpAny_letOwnedTupleGo_enum (s := { s with heap := h', toks := tk + 1 }) ho fun h'' he' sbz => ?_⟩
    have hT2 : h''.get? s.heap.objs.size = some { cls := .type "tuple", data := .seq #[.int i tk, .str ⟨#[c]⟩ u] } := (sbz.2 _ (Nat.ne_of_gt helz)).trans hTz
    have new : ObjOk X.prog X.w (upd H s.heap.objs.size (.tup [.int (i : Nat), .str ⟨#[c]⟩])) h'' s.heap.objs.size (.tup [.int (i : Nat), .str ⟨#[c]⟩]) :=
      ⟨by show 2 ≤ sizeLine; decide, [.int i tk, .str ⟨#[c]⟩ u], .cons ⟨_, rfl⟩ (.cons ⟨_, rfl⟩ .nil), ⟨_, hT2, rfl, _, rfl⟩⟩
    have J1 : Inv X pz σ (upd H s.heap.objs.size (.tup [.int (i : Nat), .str ⟨#[c]⟩])) { s with heap := h'', toks := tk + 1 } :=
      I.turnedNew (ch := [e, it]) (fun b ob hb q => (sbz.2 b (fun z => hb (by simp [z]))).trans (hk b ob (fun z => hb (by simp [z])) (fun z => hb (by simp [z])) q)) hf (Nat.le_refl _) new
    refine ⟨.ref s.heap.objs.size, _, J1, rfl, ⟨_, c, rfl, I.hok.fresh (Nat.le_refl _), hcx, rfl⟩, ⟨⟨.str ⟨#[c]⟩ u, ?_⟩, ?_, hne⟩, fun b hb => ?_⟩
    · have e1 : ((i + 1 : Nat) : Int) = (i : Int) + 1 := rfl
      rw [e1]; exact he'
    · obtain ⟨o, ho', r⟩ := hit'
      exact ⟨o, (sbz.2 it (Ne.symm hne)).trans ho', r⟩
    · have hb' : b < s.heap.objs.size := show b < _ by
        have e' : b = e ∨ b = it := (by simpa using hb); rcases e' with z | z
        · rw [z]; exact helz
        · rw [z]; exact hilz
      rw [upd_ne (Nat.ne_of_lt hb')]; exact (hf b hb).1
  done := by
    intro X hP hw hK hc i pz s σ H E I hf st hg
    subst hP hw hK
    obtain ⟨⟨oldz, he⟩, hitz, hne⟩ := st
    have hi : i = x.cps.size := hg
    subst hi
    have D : Draws X.prog X.w X.A.in1 it [it] x.cps.size (fun i v => ∃ c u, x.cps[i]? = some c ∧ v = .str ⟨#[c]⟩ u) (fun i h => h.IsStrIter it ty x t i) := by
      have hh : X.A.in1.handled = none := I.ok.hd hc
      rcases hty with rfl | rfl
      · exact Draws.strAscii hh it x t
      · exact Draws.strWide hh it x t
    obtain ⟨zf0, zf1, f2, zf3, zf4, zf5⟩ := hf it (by simp)
    exact wpAny_pyNext_enum_endD D he hitz fun h' eb => ⟨rfl, I.turned (t' := s.toks) (fun b o hb e => eb b o hb e) zf0 zf1 zf3 zf4 zf5⟩
  self := fun A i s Q E st h => wpAny_pyIter_enum st.1.choose_spec h
def iEnumS (ta : TA) : TI := fun σ H R => ta σ H fun vs H1 => ∃ x, vs = [.str x] ∧ R (ItE x) H1
theorem pi_enumS {X : Cx} {e : Expr} {ta : TA} {p pos tpos : Pos} {elts : List Expr} {kk : Nat} (hg : Gl X "enumerate") (hm : X.mg "enumerate" = none) (ha : PA X [e] ta) (hs : starEach [e] X.env = [(false, eval e X.env)] := by rfl) :
    PI X (.Tuple elts kk tpos) (.Call (.Name "enumerate" p) [e] [] pos) (iEnumS ta) := by
  refine ⟨fun pz s σ H R I h => ?_⟩
  refine Call_ (ld_blt I hg hm boot_enumerate (PyProof.Rows.callWith_type1 (thn (ha.run pos pz s σ H _ I h) fun uz s1 ⟨vs, H1, J1, r1, q1⟩ => ?_) hs rfl))
  obtain ⟨x, ex, q⟩ := q1
  subst ex
  obtain ⟨u, rfl, rz⟩ := vals1 r1
  obtain ⟨t, rfl⟩ := rz
  refine call_enumerate_str fun h' he hitz hsz hk => wpAny_pyIter_enum he ?_
  have J2 : Inv X pz σ H1 { s1 with heap := h' } := J1.kept (t' := s1.toks) hk
  have hty : strIterType x = "str_ascii_iterator" ∨ strIterType x = "str_iterator" := by
    unfold strIterType
    cases x.cps.all (· < 128) <;> simp
  refine ⟨s1.heap.objs.size + 1, [s1.heap.objs.size + 1, s1.heap.objs.size], _, _, H1, rfl, J2, turn_enumS x t _ hty (s1.heap.objs.size + 1) s1.heap.objs.size, ⟨⟨.none, he⟩, hitz, Nat.succ_ne_self _⟩, fun b hb => ?_, q⟩; have e' : b = s1.heap.objs.size + 1 ∨ b = s1.heap.objs.size := by simpa using hb
  have hle : s1.heap.objs.size ≤ b := show _ ≤ b by
    rcases e' with z | z
    · rw [z]; exact Nat.le_succ _
    · rw [z]; exact Nat.le_refl _
  exact J1.fpOk hle (J1.hok.fresh hle)
theorem walk_enumS {x : Str} : Walk (ItE x) x.cps.size (fun _ => True) (fun i H v H' => ∃ T c, v = .ref T ∧ H T = none ∧ x.cps[i]? = some c ∧ H' = upd H T (.tup [.int (i : Nat), .str ⟨#[c]⟩])) :=
  ⟨fun _ _ hi _ => hi, fun _ _ => rfl, fun _ _ _ _ _ _ y => y⟩
/-! ### list(text) -/
def sgn (x : Str) : List Str := x.cps.toList.map fun c => ⟨#[c]⟩
theorem vals_sgn {x : Str} : ∀ (cs : List Nat) (ys : List Value), ys.length = cs.length → (∀ (j : Nat) v, ys[j]? = some v → ∃ c u, cs[j]? = some c ∧ v = .str ⟨#[c]⟩ u) → Vals ((cs.map fun c => (⟨#[c]⟩ : Str)).map V.str) ys
  | [], [], _, _ => .nil
  | c :: cs, y :: ys, hl, h => by
    obtain ⟨c', u, h1, h2⟩ := h 0 y rfl
    cases h1
    subst h2
    exact .cons ⟨u, rfl⟩ (vals_sgn (x := x) cs ys (by simpa using hl) fun j v e => h (j + 1) v (by simpa using e))
  | [], _ :: _, hl, _ => absurd hl (by simp)
  | _ :: _, [], hl, _ => absurd hl (by simp)
def rListS : List V → Hp → VK → Prop := fun xs H Q => ∃ x : Str, xs = [V.str x] ∧ x.length ≤ sizeLine ∧ ∀ l, H l = none → Q (.ref l) (upd H l (.lst ((sgn x).map V.str)))
theorem call_listS {X : Cx} (hc : X.calm = true) : CallR X (.type "list") rListS := by
  intro pz s σ H xs uz Q I r h
  obtain ⟨x, rfl, hx, q⟩ := h
  obtain ⟨u, rfl, rz⟩ := vals1 r
  obtain ⟨t, rfl⟩ := rz
  refine call_list_str (I.ok.hd hc) x t (hn := hx) fun h' tk acc' c' hk hS' hacc => ?_
  have J1 : Inv X pz σ H { s with heap := h', toks := tk } := I.kept hk; have hf : H s.heap.objs.size = none := I.hok.fresh (Nat.le_refl _)
  have hv : Vals ((sgn x).map V.str) acc'.toList := vals_sgn (x := x) x.cps.toList acc'.toList (by rw [Array.length_toList, Array.length_toList]; exact hacc.1) fun j v e => by
    obtain ⟨c, u, h1, h2⟩ := hacc.2 j v (by rw [← Array.getElem?_toList]; exact e)
    exact ⟨c, u, by rw [Array.getElem?_toList]; exact h1, h2⟩
  refine ⟨.ref s.heap.objs.size, _, I.laid (t' := tk) hk (Nat.le_refl _) (show ObjOk X.prog X.w _ h' _ (.lst ((sgn x).map V.str)) from ⟨?_, acc'.toList, c', hv, ?_⟩), rfl, q _ hf⟩
  · rw [List.length_map]
    show (x.cps.toList.map _).length ≤ sizeLine
    rw [List.length_map, Array.length_toList]; exact hx
  · rw [Array.toArray_toList]
    exact hS'
end Bc

/-! list(reversed(list)) -/
namespace Bc
open PySem PySem.Spec
section
variable {s : Shared} {prog : Program} {w : World} {A : Around} {E : Value → Shared → Prop}
theorem extend_rev {R : Result → Shared → Prop} (hh : A.handled = none) {it l : Addr} {items : Array Value} (S : Addr) (res : Value) (c₀ : Nat) (hSz : s.heap.get? S = some { cls := .type "list", data := .seq #[] c₀ })
    (hitz : s.heap.IsRevIter it l ((items.size : Int) - 1)) (hl : s.heap.IsList l items) (hne : l ≠ it) (hn : items.size ≤ sizeLine) (hSi : S ≠ it) (hSl : S ≠ l)
    (hR : ∀ h' tk acc' c', (∀ b o, b ≠ S → b ≠ it → s.heap.get? b = some o → h'.get? b = some o) → h'.get? S = some { cls := .type "list", dict := none, data := .seq acc' c', slots := #[] } →
      ItemsOf (fun i v => items[items.size - 1 - i]? = some v) acc' items.size → R (.ok (.ret res)) { s with heap := h', toks := tk }) : wpAny (model prog w) A.in1 (Builtin.List.listExtendWith (.ref S) (.ref it) res) (fun fin s' => match fin with | .done f => R (.ok f) s' | .again c' => c'.quiet = true ∧ codeAny (model prog w) A c' R s') (fun e s' => R (.error e) s') s := by
  have W := (Walks.listRev (prog := prog) (w := w) (A := A.in1) hh it l hne items).toS; have hSf : S ∉ [it, l] := by simp only [List.mem_cons, List.not_mem_nil, or_false, not_or]; exact ⟨hSi, hSl⟩
  have hTz : s.TypeIs (.ref it) "list_reverseiterator" := hitz.typeIs
  have h1 : Builtin.List.listSameRef (.ref S) (.ref it) = false := by simp [Builtin.List.listSameRef, hSi]
  unfold Builtin.List.listExtendWith; refine wpAny_bind (wpAny_typeOf hTz ?_)
  rw [if_neg (by rw [h1]; decide)]; refine wpAny_bind (wpAny_pyIter_revIter hitz ?_)
  refine wpAny_bind (wpAny_holding ?_); unfold Builtin.List.listLengthHint
  refine wpAny_bind (wpAny_specialOf hTz RT.nolen_lri ?_)
  show wpAny _ A.in1 (specialOf (Value.ref it) (Str.ofString "__length_hint__") >>= _) _ _ _; refine wpAny_bind (wpAny_specialOf hTz RT.hint_lri ?_)
  generalize hid : ("list_reverseiterator.__length_hint__" : String) = id0; wp_delta
  rw [show splitId id0 = some ("list_reverseiterator", "__length_hint__") from by subst hid; decide +kernel]; subst hid
  refine wpAny_bind (wpAny_isInstance (b := true) hTz (by rw [isSubtype_type]; kernel_rfl) ?_)
  refine wpAny_pure ?_
  rw [if_neg (by decide)]
  have ez0 : ((items.size : Nat) : Int) - 1 - ((0 : Nat) : Int) = (items.size : Int) - 1 := by omega
  refine wpAny_pure ⟨plainId_quiet F.plain_extend_loop _, codeAny_extend_loopS W hn _ hSf _ items.size 0 _ _ _ rfl (Nat.zero_le _) ⟨Nat.zero_le _, by rw [ez0]; exact hitz, hl⟩ hSz (ItemsOf.nil _) fun s' acc' c' hm hS' hacc => ?_⟩
  rw [Moved.eq_with hm]
  refine hR s'.heap s'.toks acc' c' (fun b o hb hb2 e => hm.heap b o (fun hmm => ?_) e) hS' hacc
  rcases List.mem_cons.mp hmm with e' | hmm
  · exact hb e'
  · exact hb2 (List.mem_singleton.mp hmm)
theorem list_init_rev {R : Result → Shared → Prop} (hh : A.handled = none) {it l : Addr} {items : Array Value} (S : Addr) (hSz : s.heap.get? S = some { cls := .type "list", data := .seq #[] })
    (hitz : s.heap.IsRevIter it l ((items.size : Int) - 1)) (hl : s.heap.IsList l items) (hne : l ≠ it) (hn : items.size ≤ sizeLine) (hSi : S ≠ it) (hSl : S ≠ l)
    (hR : ∀ h' tk acc' c', (∀ b o, b ≠ S → b ≠ it → s.heap.get? b = some o → h'.get? b = some o) → h'.get? S = some { cls := .type "list", dict := none, data := .seq acc' c', slots := #[] } →
      ItemsOf (fun i v => items[items.size - 1 - i]? = some v) acc' items.size → R (.ok (.ret .none)) { s with heap := h', toks := tk }) : wpAny (model prog w) A.in1 (Builtin.«list.__init__» ⟨[.ref S, .ref it], []⟩) (fun fin s' => match fin with | .done f => R (.ok f) s' | .again c' => c'.quiet = true ∧ codeAny (model prog w) A c' R s') (fun e s' => R (.error e) s') s := by
  show wpAny _ _ (do let oldz ← Builtin.List.listItems (.ref S); Builtin.List.listUpdate (.ref S) (fun _ => #[]); letGo oldz.toList.reverse; Builtin.List.listExtendWith (.ref S) (.ref it) .none) _ _ s
  refine wpAny_bind ?_
  unfold Builtin.List.listItems
  refine wpAny_bind (wpAny_seqItems hSz rfl (wpAny_pure ?_))
  show wpAny _ _ (updateSeq S (fun _ => #[]) >>= fun _ => letGo (#[] : Array Value).toList.reverse >>= fun _ => Builtin.List.listExtendWith (.ref S) (.ref it) .none) _ _ s
  refine wpAny_bind (wpAny_updateSeq hSz rfl ?_)
  have hSy := Heap.get?_update_self (Obj.mapSeq (fun _ => (#[] : Array Value))) hSz rfl
  have othz : ∀ b o, b ≠ S → s.heap.get? b = some o → (s.heap.update S (Obj.mapSeq (fun _ => (#[] : Array Value)))).get? b = some o := fun b o hb e => (Heap.get?_update_other _ _ (Ne.symm hb)).trans e; refine wpAny_bind (wpAny_letGo ?_)
  have hl2 : (s.heap.update S (Obj.mapSeq (fun _ => (#[] : Array Value)))).IsList l items := by
    obtain ⟨o, ho, r⟩ := hl
    exact ⟨o, othz _ _ (Ne.symm hSl) ho, r⟩
  refine extend_rev hh S .none _ hSy (hitz.at fun o e => othz _ _ (Ne.symm hSi) e) hl2 hne hn hSi hSl fun h' tk acc' c' hk hS' hacc => ?_
  exact hR h' tk acc' c' (fun b o hb hb2 e => hk b o hb hb2 (othz b o hb e)) hS' hacc
theorem call_list_revI {Q : Value → Shared → Prop} (hh : A.handled = none) {it l : Addr} {items : Array Value} (hitz : s.heap.IsRevIter it l ((items.size : Int) - 1)) (hl : s.heap.IsList l items) (hne : l ≠ it) (hn : items.size ≤ sizeLine)
    (hQ : ∀ h' tk acc' c', (∀ b o, b ≠ it → s.heap.get? b = some o → h'.get? b = some o) →
      h'.get? s.heap.objs.size = some { cls := .type "list", dict := none, data := .seq acc' c', slots := #[] } → ItemsOf (fun i v => items[items.size - 1 - i]? = some v) acc' items.size → Q (.ref s.heap.objs.size) { s with heap := h', toks := tk }) : wpAny (model prog w) A (call (.type "list") [.ref it]) Q E s := by
  have h1 : s.heap.objs.size ≠ it := fun z => by
    obtain ⟨o, ho, _⟩ := hitz
    exact absurd (Heap.lt_size ho) (by rw [z]; exact Nat.lt_irrefl _)
  have h2 : s.heap.objs.size ≠ l := fun z => by
    obtain ⟨o, ho, _⟩ := hl
    exact absurd (Heap.lt_size ho) (by rw [z]; exact Nat.lt_irrefl _)
  refine callType_codes (Q₁ := fun obj s₁ => obj = .ref s.heap.objs.size ∧ s₁ = { s with heap := s.heap.push { cls := .type "list", data := .seq #[] } }) F.called_list (F.typeCall_list_1 _) F.entry_list_init (code_list_new _ ⟨rfl, rfl⟩) fun obj s₁ h₁ => ?_
  obtain ⟨rfl, rfl⟩ := h₁
  have hSz : (s.heap.push { cls := .type "list", data := .seq #[] }).get? s.heap.objs.size = some { cls := .type "list", data := .seq #[] } := Heap.get?_push_size _ rfl
  refine ⟨⟨_, hSz, rfl⟩, F.args_list_init_2 _ _, list_init_rev (A := A.in1) hh _ hSz (hitz.at fun o e => Heap.get?_push_of_some _ e) (hl.push _) hne hn h1 h2 fun h' tk acc' c' hk hS' hacc => ?_⟩
  exact ⟨rfl, hQ h' tk acc' c' (fun b o hb e => hk b o (Nat.ne_of_lt (Heap.lt_size e)) hb (Heap.get?_push_of_some _ e)) hS' hacc⟩
end
open L2 PyProof.Rows
/-- list(reversed(x)), x a list: a new list -/
def tListRev (K : PySem.W.Frag) (te : TE) : TE := fun σ H Q => te σ H fun v H1 => ∃ (a : Addr) (xs : List V), v = .ref a ∧ SqL K H1 a xs ∧ ∀ q, H1 q = none → Q (.ref q) (upd H1 q (.lst xs.reverse))
theorem pe_listRev {X : Cx} {e : Expr} {te : TE} {p p2 pos pos2 : Pos} (hc : X.calm = true) (hg : Gl X "list") (hm : X.mg "list" = none) (hg2 : Gl X "reversed") (hm2 : X.mg "reversed" = none) (he : PE X e te) (hs : starEach [e] X.env = (false, eval e X.env) :: starEach [] X.env := by rfl) (hs2 : starEach [.Call (.Name "reversed" p2) [e] [] pos2] X.env = (false, eval (.Call (.Name "reversed" p2) [e] [] pos2) X.env) :: starEach [] X.env := by rfl) :
    PE X (.Call (.Name "list" p) [.Call (.Name "reversed" p2) [e] [] pos2] [] pos) (tListRev X.K te) := by
  refine ⟨fun pz s σ H Q I h => ?_⟩
  refine Call_ (ld_blt I hg hm b_list (PyProof.Rows.callWith_type1 (args_cons (Call_ (ld_blt I hg2 hm2 PyProof.Rows.boot_reversed (PyProof.Rows.callWith_type1 (args_cons (thn (he.run pz s σ H _ I h) fun u s1 ⟨v, H1, J1, r1, q1⟩ => args_nil ?_) hs) hs rfl))) hs2) hs2 rfl))
  obtain ⟨a, xs, ev, hq, q⟩ := q1; subst ev
  obtain rfl : u = Value.ref a := r1; obtain ⟨itz, rvz, p', hz⟩ := J1.list hq
  refine call_reversed_list p'.isList (args_nil ?_); have k0 : ∀ b o, s1.heap.get? b = some o → (s1.heap.push (revObj a ((itz.toArray.size : Int) - 1))).get? b = some o := fun b o e => Heap.get?_push_of_some _ e
  have J2 : Inv X pz σ H1 { s1 with heap := s1.heap.push (revObj a ((itz.toArray.size : Int) - 1)) } := J1.kept (t' := s1.toks) k0
  obtain ⟨zf0, zf1, f2, zf3, zf4, zf5⟩ := J1.fpOk (H' := H1) (b := s1.heap.objs.size) (Nat.le_refl _) (J1.hok.fresh (Nat.le_refl _))
  have hl := p'.isList
  obtain ⟨ol, hol, _⟩ := id hl
  have hne : a ≠ s1.heap.objs.size := Nat.ne_of_lt (Heap.lt_size hol); have hn : itz.toArray.size ≤ sizeLine := by rw [List.size_toArray, ← rvz.length]; exact hz
  refine call_list_revI (s := { s1 with heap := s1.heap.push (revObj a ((itz.toArray.size : Int) - 1)) }) (J1.ok.hd hc) ⟨_, Heap.get?_push_size _ rfl, rfl, rfl⟩ (hl.push _) hne hn fun h' tk acc c' hk hS' hi => ?_
  have hz2 : (s1.heap.push (revObj a ((itz.toArray.size : Int) - 1))).objs.size = s1.heap.objs.size + 1 := Heap.size_push ..
  have J3 : Inv X pz σ (upd H1 (s1.heap.push (revObj a ((itz.toArray.size : Int) - 1))).objs.size (.lst xs.reverse)) { s1 with heap := h', toks := tk } := by
    refine J2.turnedNew (ch := [s1.heap.objs.size]) (fun b o hb e => hk b o (by simpa using hb) e) (fun b hb => ?_) (Nat.le_refl _) (show ObjOk X.prog X.w _ _ _ (.lst xs.reverse) from ⟨by rw [List.length_reverse]; exact hz, acc.toList, c', RT.vals_rev rvz hi, ?_⟩)
    · have e : b = s1.heap.objs.size := by simpa using hb
      subst e
      exact ⟨zf0, zf1, f2, zf3, zf4, zf5⟩
    · rw [Array.toArray_toList]
      exact hS'
  exact ⟨.ref (s1.heap.push (revObj a ((itz.toArray.size : Int) - 1))).objs.size, _, J3, rfl, q _ (J2.hok.fresh (Nat.le_refl _))⟩
end Bc

namespace Bc
open PySem L2 PyProof.Rows StX
/-! ### numbers that are not told -/
def EvN (te : TE) (σ : L2.St) (H : Hp) (P : Nat → Prop) : Prop := ∀ Q : VK, (∀ (n : Nat) H', P n → Same H H' → Q (.int (n : Nat)) H') → te σ H Q
section
variable {K : PySem.W.Frag} {σ : L2.St} {H : Hp} {ta tb te : TE} {D : Ends} {u : TS}
theorem evn_draw {E : XK} {t : TA} {s : Addr} {ns : List Int} {at_ many : Nat} (h : EvA t σ H [.ref s, .int (at_ : Nat), .int (many : Nat)]) (hS : SqL K H s (ns.map V.int)) (hl : ns.length ≤ 63) (hat : at_ ≤ 100000) (h1 : 1 ≤ many) (h2 : many ≤ 100000) :
    EvN (tCall (spDraw K) [] E t) σ H fun r => r < many := fun Q q => h _ fun H1 e1 => ⟨s, ns, at_, many, rfl, Same.seqL e1 hS, hl, hat, h1, h2, fun r H' e hr => q r H' hr (e1.trans e)⟩
theorem evn_add1 {P : Nat → Prop} (h : EvN tb σ H P) : EvN (tOp (rI0 fun i j => .int (i + j)) (tC (.int 1)) tb) σ H fun n => ∃ m, P m ∧ n = 1 + m := fun Q q => h _ fun m H' p e => ⟨1, m, rfl, rfl, by
  have z := q (1 + m) H' ⟨m, p, rfl⟩ e
  have e1 : ((1 + m : Nat) : Int) = 1 + (m : Int) := by omega
  rw [e1] at z
  exact z⟩
theorem evn_if {t : TT} {P : Nat → Prop} {b : Bool} (h : EvB t σ H b) (h1 : b = true → ∀ H', Same H H' → EvN ta σ H' P) (h2 : b = false → ∀ H', Same H H' → EvN tb σ H' P) : EvN (tIf t ta tb) σ H P := fun Q q => h _ fun H1 e1 => by
  cases b with
  | true => exact iteT (h1 rfl H1 e1 _ fun n H2 p e2 => q n H2 p (e1.trans e2))
  | false => exact iteF (h2 rfl H1 e1 _ fun n H2 p e2 => q n H2 p (e1.trans e2))
theorem evn_mono {P P' : Nat → Prop} (h : EvN te σ H P) (k : ∀ n, P n → P' n) : EvN te σ H P' := fun Q q => h _ fun n H' p e => q n H' (k n p) e
/-- (1, 1, 1, 0, 2)[r] -/
theorem evn_ix5 (h : ∀ H', Same H H' → EvN te σ H' fun r => r < 5) : EvN (tOp (rIxT K) (tTup (tCons (tC (.int 1)) (tCons (tC (.int 1)) (tCons (tC (.int 1)) (tCons (tC (.int 0)) (tCons (tC (.int 2)) tNil)))))) te) σ H fun n => n ≤ 2 := fun Q q => by
  refine ⟨by show 5 ≤ sizeLine; decide, fun p hp => h _ (same_upd hp) _ fun r H2 hr e2 => ?_⟩
  have hx : H2 p = some (.tup [.int 1, .int 1, .int 1, .int 0, .int 2]) := e2 _ _ upd_same
  have e := (same_upd (o := HO.tup [.int 1, .int 1, .int 1, .int 0, .int 2]) hp).trans e2
  have key : ∀ v : Nat, v ≤ 2 → ([V.int 1, .int 1, .int 1, .int 0, .int 2] : List V)[r]? = some (.int (v : Nat)) → rIxT K (.ref p) (.int (r : Nat)) H2 Q := fun v hv hg => ⟨p, _, r, _, rfl, rfl, SqT.of hx, atI_nat hg, q v H2 hv e⟩
  match r, hr with
  | 0, _ => exact key 1 (by decide) rfl
  | 1, _ => exact key 1 (by decide) rfl
  | 2, _ => exact key 1 (by decide) rfl
  | 3, _ => exact key 0 (by decide) rfl
  | 4, _ => exact key 2 (by decide) rfl
theorem q_asgN {P : Nat → Prop} {i : Nat} (h : EvN te σ H P) (k : ∀ (n : Nat) H', P n → Same H H' → u D (σ.set i (some (.int (n : Nat)))) H') : tSeq (tAsg te (gName i)) u D σ H := h _ fun n H' p e => k n H' p e
theorem q_forRN {P : Nat → Prop} {j : Nat} {tb : TS} (h : EvN te σ H P) (k : ∀ (n : Nat) H', P n → Same H H' → tSeq (tFor (iRng1 (tCons (tC (.int (n : Nat))) tNil)) (gName j) tb) u D σ H') : tSeq (tFor (iRng1 (tCons te tNil)) (gName j) tb) u D σ H := h _ fun n H' p e => k n H' p e
theorem q_tup2R {i j : Nat} {n : Nat} {R1 : V → Hp → Prop} {R2 : V → V → Hp → Prop} (h1 : ∀ Q : VK, (∀ v H1, R1 v H1 → Q v H1) → ta σ H Q) (h2 : ∀ v H1, R1 v H1 → ∀ Q : VK, (∀ w H2, R2 v w H2 → Q w H2) → tb σ H1 Q)
    (k : ∀ v w H2 p, R2 v w H2 → H2 p = none → u D ((σ.set i (some v)).set j (some w)) (upd H2 p (.tup [v, w]))) (hn : n = 2 := by rfl) :
    tSeq (tAsg (tTup (tCons ta (tCons tb tNil))) (gTup K n (gCons (gName i) (gCons (gName j) gNil)))) u D σ H :=
  h1 _ fun v H1 r1 => h2 v H1 r1 _ fun w H2 r2 => ⟨by show 2 ≤ sizeLine; decide, fun p hp => ⟨p, [v, w], rfl, SqT.of upd_same, hn.symm, v, [w], rfl, w, [], rfl, rfl, k v w H2 p r2 hp⟩⟩
theorem s_appR {ta te : TE} {l : Addr} {xs : List V} (R : V → Hp → Prop) (hl : H l = some (.lst xs)) (ha : Ev ta σ H (.ref l)) (hv : ∀ H', Same H H' → ∀ Q : VK, (∀ v H2, R v H2 → Q v H2) → te σ H' Q) (hR : ∀ v H2, R v H2 → H2 l = some (.lst xs)) (hz : xs.length < 100000)
    (k : ∀ v H2, R v H2 → D.nx σ (upd H2 l (.lst (xs ++ [v])))) : tDrop (tBM K "list" rAppend ta (tCons te tNil)) D σ H :=
  ha _ fun H1 e1 => ⟨.inl ⟨rfl, xs, SqL.of (e1 _ _ hl)⟩, hv H1 e1 _ fun v H2 r => ⟨l, xs, v, rfl, rfl, hR v H2 r, szl hz, k v H2 r⟩⟩
theorem q_forE {tn : TE} {tb : TS} {j j2 : Nat} {z : Str} (h : Ev tn σ H (.str z)) (Pv : Nat → L2.St → Hp → Prop) (h0 : ∀ H', Same H H' → Pv 0 σ H')
    (hs : ∀ i c σ' H1 H', z.cps[i]? = some c → Pv i σ' H1 → Same H1 H' → tb { D with nx := Pv (i + 1), ct := Pv (i + 1), bk := u D } ((σ'.set j (some (.int (i : Nat)))).set j2 (some (.str ⟨#[c]⟩))) H') (hd : ∀ σ' H', Pv z.cps.size σ' H' → u D σ' H') {n : Nat} (hn : n = 2 := by rfl) :
    tSeq (tFor (iEnumS (tCons tn tNil)) (gTup K n (gCons (gName j) (gCons (gName j2) gNil))) tb) u D σ H := h _ fun H1 e1 => ⟨z, rfl, for_it walk_enumS Pv (h0 H1 e1) (fun _ _ _ _ _ => True.intro) (fun i x σ' H2 H3 hi p y => by
      obtain ⟨T, c, rfl, hT, hc, rfl⟩ := y
      exact ⟨T, [.int (i : Nat), .str ⟨#[c]⟩], rfl, SqT.of upd_same, hn.symm, _, _, rfl, _, _, rfl, rfl, hs i c σ' H2 _ hc p (same_upd hT)⟩) hd⟩
end
/-! ### data that holds no list -/
def Tsm (H H' : Hp) : Prop := ∀ b xs, H b = some (.tup xs) → H' b = some (.tup xs)
theorem Tsm.same {H H' : Hp} (e : Same H H') : Tsm H H' := fun b xs h => e b _ h
theorem Tsm.trans {H H' H2 : Hp} (e : Tsm H H') (f : Tsm H' H2) : Tsm H H2 := fun b xs h => f b xs (e b xs h)
theorem Tsm.upd {H : Hp} {p : Addr} {o : HO} (h : ∀ xs, H p ≠ some (.tup xs)) : Tsm H (L2.upd H p o) := fun b xs q => by
  rw [upd_ne (fun z => by subst z; exact h _ q)]
  exact q
theorem Dt.drop_ts {H H' : Hp} {v : V} {d : Drop} (h : Dt H v (dDrop d)) (e : Tsm H H') : Dt H' v (dDrop d) := by
  cases h with
  | tup ha hx =>
    have ex := Dts.of_strs hx
    subst ex
    exact .tup (e _ _ ha) (Dts.strs d)
theorem Dts.drops_ts {H H' : Hp} (e : Tsm H H') : ∀ {r : Row} {vs : List V}, Dts H vs (r.map dDrop) → Dts H' vs (r.map dDrop)
  | [], _, .nil => .nil
  | _ :: _, _, .cons h k => .cons (h.drop_ts e) (Dts.drops_ts e k)
theorem Dt.row_ts {H H' : Hp} {v : V} {r : Row} (h : Dt H v (dRow r)) (e : Tsm H H') : Dt H' v (dRow r) := by
  cases h with
  | tup ha hx => exact .tup (e _ _ ha) (hx.drops_ts e)
theorem Dts.rowsL_ts {H H' : Hp} (e : Tsm H H') : ∀ {rs : List Row} {vs : List V}, Dts H vs (rs.map dRow) → Dts H' vs (rs.map dRow)
  | [], _, .nil => .nil
  | _ :: _, _, .cons h k => .cons (h.row_ts e) (Dts.rowsL_ts e k)
theorem Dt.rows_ts {H H' : Hp} {v : V} {r : Rows} (h : Dt H v (dRows r)) (e : Tsm H H') : Dt H' v (dRows r) := by
  have key : ∀ l : List Row, Dt H v (.tuple (l.map dRow)) → Dt H' v (.tuple (l.map dRow)) := fun l h => by
    cases h with
    | tup ha hx => exact .tup (e _ _ ha) (hx.rowsL_ts e)
  exact key [r.1, r.2] h
theorem Dk.kd_ts {H H' : Hp} (e : Tsm H H') : ∀ {ks : Knots} {kv : List (Key × V)}, Dk H kv (kd ks) → Dk H' kv (kd ks)
  | [], _, .nil => .nil
  | _ :: _, _, .cons h k => .cons (h.rows_ts e) (Dk.kd_ts e k)
end Bc

namespace Bc
open PySem L2 PyProof.Rows StX
/-! ### data made -/
section
variable {K : PySem.W.Frag} {σ : L2.St} {H : Hp} {ta tb te : TE} {D : Ends} {u : TS}
theorem evd_of {v : V} {d : PyData} (h : Ev te σ H v) (hd : Dt H v d) : EvD te σ H d := fun Q q => h _ fun H' e => q v H' e (hd.go e)
theorem evd_tup0 : EvD (tTup tNil) σ H (.tuple []) := fun Q q => ⟨Nat.zero_le _, fun p hp => q _ _ (same_upd hp) (.tup upd_same .nil)⟩
theorem evd_tup1 {d : PyData} (h : EvD te σ H d) : EvD (tTup (tCons te tNil)) σ H (.tuple [d]) := fun Q q => h _ fun v H1 e1 hd => ⟨by show 1 ≤ sizeLine; decide, fun p hp => q _ _ (e1.trans (same_upd hp)) (.tup upd_same (.cons (hd.go (same_upd hp)) .nil))⟩
theorem evd_tup2 {d e : PyData} (h : EvD ta σ H d) (k : ∀ H', Same H H' → EvD tb σ H' e) : EvD (tTup (tCons ta (tCons tb tNil))) σ H (.tuple [d, e]) := fun Q q =>
  h _ fun v H1 e1 hd => k H1 e1 _ fun w H2 e2 he => ⟨by show 2 ≤ sizeLine; decide, fun p hp => q _ _ (e1.trans (e2.trans (same_upd hp))) (.tup upd_same (.cons (hd.go (e2.trans (same_upd hp))) (.cons (he.go (same_upd hp)) .nil)))⟩
theorem evd_if {t : TT} {b : Bool} {d : PyData} (h : EvB t σ H b) (h1 : b = true → ∀ H', Same H H' → EvD ta σ H' d) (h2 : b = false → ∀ H', Same H H' → EvD tb σ H' d) : EvD (tIf t ta tb) σ H d := fun Q q => h _ fun H1 e1 => by
  cases b with
  | true => exact iteT (h1 rfl H1 e1 _ fun v H2 e2 p => q v H2 (e1.trans e2) p)
  | false => exact iteF (h2 rfl H1 e1 _ fun v H2 e2 p => q v H2 (e1.trans e2) p)
theorem Dts.nil_of {H : Hp} {vs : List V} {ds : List PyData} (h : Dts H vs ds) (e : vs = []) : ds = [] := by
  subst e
  cases h
  rfl
theorem evd_cat {ds es : List PyData} (h : EvD ta σ H (.tuple ds)) (k : ∀ H', Same H H' → EvD tb σ H' (.tuple es)) (hl : ds.length + es.length ≤ 100000) : EvD (tOp (rCatA K) ta tb) σ H (.tuple (ds ++ es)) := fun Q q =>
  h _ fun v H1 e1 hd => k H1 e1 _ fun w H2 e2 he => by
    cases hd with
    | @tup a xs _ ha hx =>
    cases he with
    | @tup b ys _ hb hy =>
    have ha2 := e2 _ _ ha
    have hx2 := hx.go e2
    have e := e1.trans e2
    refine ⟨a, b, xs, ys, rfl, rfl, SqT.of ha2, SqT.of hb, by rw [hx2.length, hy.length]; exact sz hl, fun z => ?_, fun z1 z2 => ?_, fun _ _ p hp => ?_⟩
    · have z' := hx2.nil_of z
      subst z'
      exact q _ _ e (.tup hb hy)
    · have z' := hy.nil_of z2
      subst z'
      rw [List.append_nil] at q
      exact q _ _ e (.tup ha2 hx2)
    · exact q _ _ (e.trans (same_upd hp)) (.tup upd_same ((hx2.append hy).go (same_upd hp)))
theorem evd_from {tl : TE} {ds : List PyData} {c : Nat} (h : EvD te σ H (.tuple ds)) (hc : ∀ H', Same H H' → Ev tl σ H' (.int (c : Nat))) : EvD (tSl (rSlA K) te (tPart tl) tNoPart) σ H (.tuple (ds.drop c)) := fun Q q =>
  h _ fun v H1 e1 hd => hc H1 e1 _ fun H2 e2 => ⟨_, rfl, by
    cases hd with
    | @tup a xs _ ha hx =>
    have ha2 := e2 _ _ ha
    have hx2 := hx.go e2
    have hl := hx2.length
    have e := e1.trans e2
    have key : cutV xs (some (c : Nat)) none = xs.drop c := by
      unfold cutV
      rw [HT.sIx_nat, HT.sIx_none]
      rcases Nat.le_total c xs.length with z | z
      · rw [Nat.min_eq_left z, List.take_of_length_le (by rw [List.length_drop]; exact Nat.le_refl _)]
      · rw [Nat.min_eq_right z, List.drop_of_length_le (Nat.le_refl _), List.drop_of_length_le z, List.take_nil]
    refine ⟨a, xs, rfl, SqT.of ha2, fun z => ?_, fun z p hp => ?_⟩
    · have h1 := z.1
      rw [HT.sIx_nat] at h1
      have h0 : c = 0 ∨ xs.length = 0 := by omega
      rcases h0 with h0 | h0
      · subst h0
        exact q _ _ e (.tup ha2 hx2)
      · have : ds = [] := List.length_eq_zero_iff.mp (by omega)
        subst this
        rw [List.drop_nil] at q
        exact q _ _ e (.tup ha2 hx2)
    · rw [key]
      exact q _ _ (e.trans (same_upd hp)) (.tup upd_same ((hx2.drop c).go (same_upd hp)))⟩
theorem evd_upto {tl : TE} {ds : List PyData} {c : Nat} (h : EvD te σ H (.tuple ds)) (hc : ∀ H', Same H H' → Ev tl σ H' (.int (c : Nat))) : EvD (tSl (rSlA K) te tNoPart (tPart tl)) σ H (.tuple (ds.take c)) := fun Q q =>
  h _ fun v H1 e1 hd => hc H1 e1 _ fun H2 e2 => ⟨_, rfl, by
    cases hd with
    | @tup a xs _ ha hx =>
    have ha2 := e2 _ _ ha
    have hx2 := hx.go e2
    have hl := hx2.length
    have e := e1.trans e2
    have key : cutV xs none (some (c : Nat)) = xs.take c := by
      unfold cutV
      rw [HT.sIx_nat, HT.sIx_none, List.drop_zero, Nat.sub_zero]
      rcases Nat.le_total c xs.length with z | z
      · rw [Nat.min_eq_left z]
      · rw [Nat.min_eq_right z, List.take_of_length_le (Nat.le_refl _), List.take_of_length_le z]
    refine ⟨a, xs, rfl, SqT.of ha2, fun z => ?_, fun z p hp => ?_⟩
    · have h1 := z.2
      rw [HT.sIx_nat] at h1
      rw [List.take_of_length_le (by omega)] at q
      exact q _ _ e (.tup ha2 hx2)
    · rw [key]
      exact q _ _ (e.trans (same_upd hp)) (.tup upd_same ((hx2.take c).go (same_upd hp)))⟩
theorem q_asgD {d : PyData} {i : Nat} (h : EvD te σ H d) (k : ∀ v H', Same H H' → Dt H' v d → u D (σ.set i (some v)) H') : tSeq (tAsg te (gName i)) u D σ H := h _ fun v H' e p => k v H' e p
theorem s_dputD {td ty tv : TE} {a : Addr} {kvs : List (Key × V)} {k : Key} {d : PyData} (hv : EvD tv σ H d) (hd : ∀ H', Same H H' → Ev td σ H' (.ref a)) (hk : ∀ H', Same H H' → Ev ty σ H' (kV k)) (h : H a = some (.dK kvs)) (hl : kvs.length < 100000)
    (q : ∀ v H', Same H H' → Dt H' v d → D.nx σ (upd H' a (.dK (putK kvs k v)))) : sDPut td ty tv D σ H :=
  hv _ fun v H1 e1 p => hd H1 e1 _ fun H2 e2 => hk H2 (e1.trans e2) _ fun H3 e3 => ⟨a, _, rfl, DPut.k ((e1.trans (e2.trans e3)) _ _ h) (szl hl), q v H3 (e1.trans (e2.trans e3)) (p.go (e2.trans e3))⟩
theorem ev_lenDt {v : V} {ds : List PyData} (ha : Ev ta σ H v) (h : Dt H v (.tuple ds)) : Ev (tCB (rLen K) (tCons ta tNil)) σ H (.int (ds.length : Nat)) := by
  cases h with
  | @tup a xs _ h1 h2 =>
  have z := ev_lenT (K := K) ha h1
  rw [h2.length] at z
  exact z
end
/-! ### the names of the knots -/
def abcd : Str := "abcd"
def ab : List Str := ["a", "b", "c", "d"]
def nmS (r : Nat) : Str := cutS abcd none (some ((1 + r : Nat) : Int))
theorem nm_sgn : ∀ r, r < 4 → sgn (nmS r) = ab.take (1 + r)
  | 0, _ => by decide +kernel
  | 1, _ => by decide +kernel
  | 2, _ => by decide +kernel
  | 3, _ => by decide +kernel
theorem nm_size : ∀ r, r < 4 → (nmS r).cps.size = 1 + r
  | 0, _ => by decide +kernel
  | 1, _ => by decide +kernel
  | 2, _ => by decide +kernel
  | 3, _ => by decide +kernel
theorem nm_at {r i c : Nat} (hr : r < 4) (h : (nmS r).cps[i]? = some c) : (ab.take (1 + r))[i]? = some ⟨#[c]⟩ := by
  rw [← nm_sgn r hr]
  unfold sgn
  rw [List.getElem?_map, Array.getElem?_toList, h]
  rfl
theorem nm_cp {r i : Nat} {y : Str} (hr : r < 4) (h : (ab.take (1 + r))[i]? = some y) : ∃ c, (nmS r).cps.toList[i]? = some c ∧ y = ⟨#[c]⟩ := by
  rw [← nm_sgn r hr] at h
  unfold sgn at h
  rw [List.getElem?_map] at h
  obtain ⟨c, h1, h2⟩ := Option.map_eq_some_iff.mp h
  exact ⟨c, h1, h2.symm⟩
/-- targets of drawn drops -/
def tgs (n : Nat) : List Str := ab.take n ++ (["o", "p"] : List Str)
def okd (n : Nat) (d : Drop) : Prop := d.length ≤ 2 ∧ ∀ x ∈ d, x ∈ tgs n
structure DRows (n : Nat) (r : Rows) : Prop where
  l1 : r.1.length ≤ 2
  l2 : 1 ≤ r.2.length
  l3 : r.2.length ≤ 5
  ok1 : ∀ d ∈ r.1, okd n d
  ok2 : ∀ d ∈ r.2, okd n d
/-- the first i knots of n drawn ones -/
structure DKn (n i : Nat) (ks : Knots) : Prop where
  names : kn ks = (ab.take n).take i
  rows : ∀ p ∈ ks, DRows n p.2
  next : ∀ (j : Nat) (x : Str) (r : Rows) (y : Str), ks[j]? = some (x, r) → (ab.take n)[j + 1]? = some y → [y] ∈ r.2
section
variable {K : PySem.W.Frag} {σ : L2.St} {H : Hp} {ta tb te : TE} {D : Ends} {u : TS}
/-- list(names) + ['o', 'p'] -/
theorem el_tgs {r : Nat} (hr : r < 4) (h : Ev ta σ H (.str (nmS r))) : EvL (tOp rCat (tCB rListS (tCons ta tNil)) (tLst (tCons (tC (.str "o")) (tCons (tC (.str "p")) tNil)))) σ H ((tgs (1 + r)).map V.str) := fun Q q =>
  h _ fun H1 e1 => ⟨nmS r, rfl, by show (nmS r).cps.size ≤ sizeLine; rw [nm_size r hr]; exact sz (by omega), fun l hl => ⟨by show 2 ≤ sizeLine; decide, fun p hp => ⟨l, p, (sgn (nmS r)).map V.str, [.str "o", .str "p"], rfl, rfl, by
    rw [upd_ne (fun z => by rw [← z, upd_same] at hp; cases hp), upd_same], upd_same, by
    rw [List.length_map, nm_sgn r hr, List.length_take]
    exact sz (by show min (1 + r) 4 + 2 ≤ 100000; omega), fun w hw => by
    have e := e1.trans ((same_upd (o := HO.lst ((sgn (nmS r)).map V.str)) hl).trans ((same_upd (o := HO.lst [.str "o", .str "p"]) hp).trans (same_upd (o := HO.lst ((sgn (nmS r)).map V.str ++ [.str "o", .str "p"])) hw)))
    refine q w _ ?_ e ?_
    · cases z : H w with
      | none => rfl
      | some o =>
        have z2 := (e1.trans ((same_upd (o := HO.lst ((sgn (nmS r)).map V.str)) hl).trans (same_upd (o := HO.lst [.str "o", .str "p"]) hp))) _ _ z
        rw [hw] at z2
        cases z2
    · rw [upd_same, nm_sgn r hr]
      unfold tgs
      rw [List.map_append]
      rfl⟩⟩⟩
/-- a comprehension of texts of tg: as many as told -/
theorem lc_strs {σ : L2.St} {H1 : Hp} {E : XK} {te : TE} {j : Nat} {vs : List Nat} {S : Str → Prop} {m : Nat} (hm : m ≤ 2) (hw : ∀ x, wipe ((wipe σ vs).set j (some x)) vs = wipe σ vs) {Q1 : VK}
    (hs : ∀ (i : Nat) H, i < m → Same H1 H → ∀ Q : VK, (∀ z H4, S z → Same H H4 → Q (.str z) H4) → te ((wipe σ vs).set j (some (.int (i : Nat)))) H Q) (D : Addr) (hD : H1 D = none)
    (q : ∀ zs : List Str, zs.length = m → (∀ z ∈ zs, S z) → ∀ H, Same H1 H → H D = some (.lst (zs.map V.str)) → Q1 (.ref D) H) :
    ∃ W : Nat → Nat → Hp → Prop, (∃ m, W 0 m (upd H1 D (.lst []))) ∧ ∀ i k H, W i k H →
      ((Itr 0 ((m : Nat) : Int).toNat).stop i H ∧ Q1 (.ref D) H) ∨ ((Itr 0 ((m : Nat) : Int).toNat).go i H ∧ ∃ Nx : Hp → Prop, (∀ H', Nx H' → ∃ m', m' < k ∧ W (i + 1) m' H') ∧ ∀ x H', (Itr 0 ((m : Nat) : Int).toNat).yld i H x H' → gName j x (wipe σ vs) H' fun σ2 H2 => wipe σ2 vs = wipe σ vs ∧ tYes σ2 H2 fun b H3 => if b = true then te σ2 H3 fun y H4 => ∃ acc, H4 D = some (.lst acc) ∧ acc.length < sizeLine ∧ Nx (upd H4 D (.lst (acc ++ [y]))) else Nx H3) := by
  have em : ((m : Nat) : Int).toNat = m := by omega
  rw [em]
  refine lc_name (walk_range (lo := 0) (n := m)) (fun _ y _ => ∃ z, S z ∧ y = .str z) (fun _ _ _ _ _ h => h) hD (by omega) (fun _ _ => True.intro) hw (fun i x H H' hi e y => ?_) (fun ys H hl hr e h => ?_)
  · obtain ⟨rfl, rfl⟩ := y
    refine ⟨Same.refl _, fun Q k => ?_⟩
    show te ((wipe σ vs).set j (some (.int (0 + (i : Nat))))) _ Q
    rw [Int.zero_add]
    exact hs i _ hi e Q fun z H4 sz e4 => k _ H4 e4 ⟨z, sz, rfl⟩
  · have key : ∀ ys : List V, (∀ y ∈ ys, ∃ z, S z ∧ y = V.str z) → ∃ zs : List Str, ys = zs.map V.str ∧ ∀ z ∈ zs, S z := by
      intro ys
      induction ys with
      | nil => intro _; exact ⟨[], rfl, fun _ h => nomatch h⟩
      | cons y r ih =>
        intro hy
        obtain ⟨z, sz, rfl⟩ := hy y List.mem_cons_self
        obtain ⟨zs, rfl, h2⟩ := ih fun y' h' => hy y' (List.mem_cons_of_mem _ h')
        exact ⟨z :: zs, rfl, fun x hx => (List.mem_cons.mp hx).elim (fun e => e ▸ sz) (h2 x)⟩
    obtain ⟨zs, rfl, h2⟩ := key ys fun y hy => by
      obtain ⟨i, hi, rfl⟩ := List.mem_iff_getElem.mp hy
      exact hr i _ (List.getElem?_eq_getElem hi)
    exact q zs (by rw [← hl, List.length_map]) h2 H e h
end
end Bc

namespace Bc
open PySem L2 PyProof.Rows StX
theorem not_in_take {l : List Str} {i : Nat} {x : Str} (hn : l.Nodup) (h : l[i]? = some x) : x ∉ l.take i := by
  intro m
  obtain ⟨j, hj, e⟩ := List.getElem_of_mem m
  rw [List.length_take] at hj
  rw [List.getElem_take] at e
  have h2 : l[j]? = some x := by
    rw [List.getElem?_eq_getElem (by omega), e]
  have := nd_ix hn h2 h
  omega
section
variable {P : Program} {w : World} {K : PySem.W.Frag} {mg : Str → Option Value} {base : Heap} {ad : Ad}
theorem call_lenK {X : Cx} {K : PySem.W.Frag} (h : X.K = K) : CallR X (.builtin "len") (rLen K) := by
  subst h
  exact call_len_seq
theorem ix_listK {X : Cx} {K : PySem.W.Frag} (h : X.K = K) : IxR X (rIxL K) := by
  subst h
  exact ix_list
theorem ev_nms {σ : L2.St} {H : Hp} {te : TE} (h : EvN te σ H fun n => ∃ m, m < 4 ∧ n = 1 + m) (Q : VK) (q : ∀ v H', (∃ r, r < 4 ∧ v = .str (nmS r) ∧ Same H H') → Q v H') : tSl rSlS (tC (.str abcd)) tNoPart (tPart te) σ H Q :=
  h _ fun n H' ⟨m, hm, hn⟩ e => by
    subst hn
    exact ⟨_, rfl, abcd, rfl, by decide, q _ _ ⟨m, hm, rfl, e⟩⟩
theorem eu_tupOfR {K : PySem.W.Frag} {σ : L2.St} {H : Hp} {ta : TE} {R : List Str → Prop} (h : ∀ Q : VK, (∀ p H' zs, R zs → Same H H' → H' p = some (.lst (zs.map V.str)) → Q (.ref p) H') → ta σ H Q) (Q : VK) (q : ∀ p H' zs, R zs → Same H H' → H' p = some (.tup (zs.map V.str)) → Q (.ref p) H') :
    tCB (rTupOf K) (tCons ta tNil) σ H Q := h _ fun p H1 zs r e hx => ⟨p, _, rfl, .inl ⟨SqL.of hx, fun l hl => q l _ zs r (e.trans (same_upd hl)) upd_same⟩⟩
def PR (n k : Nat) (rr : Row) : Prop := (∀ d ∈ rr, okd n d) ∧ (k = 0 → rr.length ≤ 2) ∧ (k ≠ 0 → 1 ≤ rr.length ∧ rr.length ≤ 3)
def oRow (b : Bool) : Row := if b then [["o"]] else []
def nxt (n i : Nat) : Row := match (ab.take n)[i]? with | some y => [[y]] | none => []
theorem nxt_some {n i : Nat} {y : Str} (h : (ab.take n)[i]? = some y) : nxt n i = [[y]] := by
  unfold nxt
  rw [h]
theorem nxt_none {n i : Nat} (h : (ab.take n)[i]? = none) : nxt n i = [] := by
  unfold nxt
  rw [h]
theorem nxt_len (n i : Nat) : (nxt n i).length ≤ 1 := by
  cases h : (ab.take n)[i]? with
  | none => rw [nxt_none h]; exact Nat.zero_le _
  | some y => rw [nxt_some h]; exact Nat.le_refl _
theorem nxt_ok {n i : Nat} : ∀ d ∈ nxt n i, okd n d := by
  cases h : (ab.take n)[i]? with
  | none => rw [nxt_none h]; intro d hd; cases hd
  | some y =>
    rw [nxt_some h]
    intro d hd
    rw [List.mem_singleton.mp hd]
    exact ⟨Nat.le_succ 1, fun x hx => by rw [List.mem_singleton.mp hx]; exact List.mem_append_left _ (List.mem_of_getElem? h)⟩
theorem oRow_ok {n : Nat} {b : Bool} : ∀ d ∈ oRow b, okd n d := by
  cases b with
  | false => intro d hd; cases hd
  | true =>
    intro d hd
    rw [List.mem_singleton.mp hd]
    exact ⟨by decide, fun x hx => by rw [List.mem_singleton.mp hx]; exact List.mem_append_right _ List.mem_cons_self⟩
theorem oRow_len (b : Bool) : (oRow b).length ≤ 1 := by cases b <;> decide
theorem ab_len {r : Nat} (h : r < 4) : (ab.take (1 + r)).length = 1 + r := by
  rw [List.length_take]
  show min (1 + r) 4 = _
  omega
theorem ab_nodup (n : Nat) : (ab.take n).Nodup := List.Nodup.sublist (List.take_sublist _ _) (by decide +kernel)
theorem Dk.snoc {H : Hp} {v : V} {k : Str} {d : PyData} (hd : Dt H v d) : ∀ {kv : List (Key × V)} {ds : List (Str × PyData)}, Dk H kv ds → Dk H (kv ++ [(.inr k, v)]) (ds ++ [(k, d)])
  | _, _, .nil => .cons hd .nil
  | _, _, .cons h r => .cons h (Dk.snoc hd r)
theorem tgs_pos (n : Nat) : 1 ≤ (tgs n).length := by
  unfold tgs
  rw [List.length_append]
  show 1 ≤ _ + 2
  omega
theorem tgs_len (n : Nat) : (tgs n).length ≤ 100000 := by
  unfold tgs
  rw [List.length_append, List.length_take]
  show min n 4 + 2 ≤ 100000
  omega
theorem ints_a3 {f g m i : Nat} : ((f : Int) + (g : Int) + 5 * (m : Int) + (i : Int)) = ((f + g + 5 * m + i : Nat) : Int) := by omega
theorem ints_a2 {f g m : Nat} : ((f : Int) + (g : Int) + 5 * (m : Int)) = ((f + g + 5 * m : Nat) : Int) := by omega
theorem ints_at {a b d : Nat} : ((a : Int) + 10 + 40 * (b : Int) + 12 * (d : Int)) = ((a + 10 + 40 * b + 12 * d : Nat) : Int) := by omega
/-! ### _law_knots -/
def spLKnots (K : PySem.W.Frag) : Sp := fun vs H Q _ => ∃ (s : Addr) (ns : List Int) (at_ : Nat) (b : Bool), vs = [.ref s, .int at_, .bl b] ∧ SqL K H s (ns.map V.int) ∧ ns.length ≤ 63 ∧ at_ ≤ 1000 ∧
  ∀ (p : Addr) (kv : List (Key × V)) (ks : Knots) (r : Nat) H', r < 4 → H p = none → Same H H' → H' p = some (.dK kv) → Dk H' kv (kd ks) → DKn (1 + r) (1 + r) ks → Q (.ref p) H'
abbrev nmLK : List Str := ["script", "at", "lossy", "names", "knots", "targets", "spot", "name", "rows", "part", "row", "first", "turn", "many", "last", "cut", "one"]
theorem scLKnots : FnScope nmLK ["script", "at", "lossy"] (defScope sLKnots) := ⟨rfl, rfl, rfl, by decide +kernel, rfl, by decide +kernel, by decide +kernel⟩
theorem ok_lknots (T : Tx K mg ad) : FnOk P w K mg base CX0 3 ad.lKnots ad.dLKnots ["script", "at", "lossy"] (spLKnots K) := by
  have G : FnOk P w K mg base CX0 2 ad.draw ad.dDraw ["script", "at", "many"] (spDraw K) := ok_draw T
  have b := T.fDraw.binds (ps := ["script", "at", "many"]) fun _ _ _ _ _ _ us hl => match us, hl with | [_, _, _], _ => rfl
  refine T.fLKnots.ok scLKnots (fun vs H Q E h => ?_) (fun cdv A outer s H vs Q E hr h => ?_)
  · obtain ⟨sa, ns, at_, b, rfl, _⟩ := h
    rfl
  · obtain ⟨sa, ns, at_, lossy, rfl, hS, hl, hat, k⟩ := h
    refine ⟨_, pss_cons (ps_set (i := 3) scLKnots.nd rfl (.inl rfl) (pe_slice sl_str pe_str po_none (po_some (pe_op op_add pe_int (pe_call G hr (by rfl) T.gDraw T.fDraw.kp b .nil pass0 (pa_cons (pv 0) (pa_cons (pv 1) (pa_cons pe_int pa_nil))))))))
      (pss_cons (ps_asg (pe_tup (pa_cons pe_dnewK (pa_cons (pe_op op_cat (pe_callTy (call_listS rfl) (by rfl) T.list b_list (pa_cons (pv 3) pa_nil)) (pe_lst (pa_cons pe_str (pa_cons pe_str pa_nil)))) pa_nil))) (pg_tup (by rfl) (pgs_cons (pg_name (i := 4) scLKnots.nd rfl (.inl rfl)) (pgs_cons (pg_name (i := 5) scLKnots.nd rfl (.inr rfl)) pgs_nil))))
      (pss_cons (ps_for PassesOwn.never rfl (pi_enumS (by rfl) T.enumerate (pa_cons (pv 3) pa_nil)) (pg_tup (by rfl) (pgs_cons (pg_name (i := 6) scLKnots.nd rfl (.inl rfl)) (pgs_cons (pg_name (i := 7) scLKnots.nd rfl (.inl rfl)) pgs_nil)))
        (pss_cons (ps_set (i := 8) scLKnots.nd rfl (.inl rfl) (pe_lst pa_nil))
        (pss_cons (ps_for PassesOwn.never rfl (pi_range1 (by rfl) T.range (pa_cons pe_int pa_nil)) (pg_name (i := 9) scLKnots.nd rfl (.inl rfl))
          (pss_cons (ps_asg (pe_tup (pa_cons (pe_lst pa_nil) (pa_cons (pe_op op_add (pe_op op_add (pe_op op_add (pv 1) pe_int) (pe_op op_mul pe_int (pv 6))) (pe_op op_mul pe_int (pv 9))) pa_nil))) (pg_tup (by rfl) (pgs_cons (pg_name (i := 10) scLKnots.nd rfl (.inl rfl)) (pgs_cons (pg_name (i := 11) scLKnots.nd rfl (.inr rfl)) pgs_nil))))
          (pss_cons (ps_for PassesOwn.never rfl (pi_range1 (by rfl) T.range (pa_cons (pe_ifExp (pt_cmpR op_eq (pv 9) pe_int (nomark _)) (pe_call G hr (by rfl) T.gDraw T.fDraw.kp b .nil pass0 (pa_cons (pv 0) (pa_cons (pv 11) (pa_cons pe_int pa_nil)))) (pe_op op_add pe_int (pe_call G hr (by rfl) T.gDraw T.fDraw.kp b .nil pass0 (pa_cons (pv 0) (pa_cons (pv 11) (pa_cons pe_int pa_nil)))))) pa_nil)) (pg_name (i := 12) scLKnots.nd rfl (.inr rfl))
            (pss_cons (ps_set (i := 13) scLKnots.nd rfl (.inl rfl) (pe_ix ix_tup (pe_tup (pa_cons pe_int (pa_cons pe_int (pa_cons pe_int (pa_cons pe_int (pa_cons pe_int pa_nil)))))) (pe_call G hr (by rfl) T.gDraw T.fDraw.kp b .nil pass0 (pa_cons (pv 0) (pa_cons (pe_op op_add (pe_op op_add (pv 11) pe_int) (pe_op op_mul pe_int (pv 12))) (pa_cons pe_int pa_nil)))) (fun _ _ => rfl)))
            (pss_one (ps_expr (pe_bm PySem.F.plainAttrs_list PySem.F.slot_list_append PySem.F.type_list_append mt_append (pv 10) (pa_cons (pe_callTy call_tuple_of (by rfl) T.tuple b_tuple (pa_cons (pe_lc (own := [("one", 16)]) (g := gName 16) (tt := tYes) rfl scLKnots.nd (pi_range1 (by rfl) T.range (pa_cons (pv 13) pa_nil)) (blkOk_by (N := nmLK) (sc := defScope sLKnots) (by decide +kernel))
              (fun _ _ _ _ _ => pg_name (i := 16) scLKnots.nd rfl (Or.inl rfl)) (fun _ _ _ _ _ => pts_nil) (fun _ _ _ _ _ => pe_ix (ix_listK (K := K) rfl) (pv 5) (pe_call G hr (by rfl) T.gDraw T.fDraw.kp b .nil pass0 (pa_cons (pv 0) (pa_cons (pe_op op_add (pe_op op_add (pe_op op_add (pv 11) pe_int) (pe_op op_mul pe_int (pv 12))) (pv 16)) (pa_cons (pe_callB (call_lenK (K := K) rfl) (by rfl) T.len PySem.boot_len (pa_cons (pv 5) pa_nil)) pa_nil)))) (fun _ _ => rfl))) pa_nil)) pa_nil))))))
          (pss_one (ps_expr (pe_bm PySem.F.plainAttrs_list PySem.F.slot_list_append PySem.F.type_list_append mt_append (pv 8) (pa_cons (pe_callTy call_tuple_of (by rfl) T.tuple b_tuple (pa_cons (pv 10) pa_nil)) pa_nil)))))))
        (pss_cons (ps_set (i := 14) scLKnots.nd rfl (.inl rfl) (pe_ifExp (pt_cmpR op_lt (pe_op op_add (pv 6) pe_int) (pe_callB call_len_str (by rfl) T.len PySem.boot_len (pa_cons (pv 3) pa_nil)) (nomark _)) (pe_tup (pa_cons (pe_tup (pa_cons (pe_ix ix_str (pv 3) (pe_op op_add (pv 6) pe_int) (fun _ _ => rfl)) pa_nil)) pa_nil)) (pe_tup pa_nil)))
        (pss_cons (ps_set (i := 12) scLKnots.nd rfl (.inr rfl) (pe_op op_catA (pe_op op_catA (pe_ix ix_list (pv 8) pe_int (fun _ _ => rfl)) (pv 14)) (pe_ifExp (pt_val (pv 2)) (pe_tup (pa_cons (pe_tup (pa_cons pe_str pa_nil)) pa_nil)) (pe_tup pa_nil))))
        (pss_cons (ps_set (i := 15) scLKnots.nd rfl (.inl rfl) (pe_call G hr (by rfl) T.gDraw T.fDraw.kp b .nil pass0 (pa_cons (pv 0) (pa_cons (pe_op op_add (pe_op op_add (pv 1) pe_int) (pv 6)) (pa_cons (pe_callB call_len_seq (by rfl) T.len PySem.boot_len (pa_cons (pv 12) pa_nil)) pa_nil)))))
        (pss_one (ps_dput (hu_of hr) (pv 4) (pv 7) (pe_tup (pa_cons (pe_ix ix_list (pv 8) pe_int (fun _ _ => rfl)) (pa_cons (pe_op op_catA (pe_slice sl_tupA (pv 12) (po_some (pv 15)) po_none) (pe_slice sl_tupA (pv 12) po_none (po_some (pv 15)))) pa_nil))) rfl))))))))
      (pss_one (ps_ret (pv 4))))), ?_⟩
    have dr : ∀ {σ : L2.St} {H1 : Hp} {E' : XK} {ta tm : TE} {a m : Nat}, σ[0]? = some (some (.ref sa)) → Same H H1 → (∀ H', Same H1 H' → Ev ta σ H' (.int (a : Nat))) → (∀ H', Same H1 H' → Ev tm σ H' (.int (m : Nat))) → a ≤ 100000 → 1 ≤ m → m ≤ 100000 →
        EvN (tCall (spDraw K) [] E' (tCons (tVar 0) (tCons ta (tCons tm tNil)))) σ H1 fun r => r < m := fun h0 e1 ha hm h1 h2 h3 =>
      evn_draw (ea_cons (ev_tv h0) fun H2 e2 => ea_cons (ha H2 e2) fun H3 e3 => ea_cons (hm H3 (e2.trans e3)) fun _ _ => ea_nil) (Same.seqL e1 hS) hl h1 h2 h3
    refine q_asgR (fun v H' => ∃ r, r < 4 ∧ v = .str (nmS r) ∧ Same H H') (fun Q q => ev_nms (evn_add1 (dr rfl (Same.refl _) (fun _ _ => ev_tv rfl) (fun _ _ => ev_tc) (by omega) (by decide) (by decide))) Q q) fun v H1 hv => ?_
    obtain ⟨r, hr4, rfl, e1⟩ := hv
    refine q_tup2R (R1 := fun v H2 => ∃ p, v = .ref p ∧ H1 p = none ∧ H2 = upd H1 p (.dK [])) (R2 := fun v w H3 => ∃ p t, v = .ref p ∧ w = .ref t ∧ H1 p = none ∧ Same (upd H1 p (.dK [])) H3 ∧ H3 t = some (.lst ((tgs (1 + r)).map V.str)))
      (fun Q q p hp => q _ _ ⟨p, rfl, hp, rfl⟩) (fun v H2 hv Q q => ?_) fun v w H3 p3 hvw hp3 => ?_
    · obtain ⟨p, rfl, hp, rfl⟩ := hv
      exact el_tgs hr4 (ev_tv rfl) Q fun t H3 ht e3 hx => q _ _ ⟨p, t, rfl, rfl, hp, e3, hx⟩
    obtain ⟨ka, tg, rfl, rfl, hka1, e3, htg⟩ := hvw
    have hka : H ka = none := e1.free hka1
    have ne_tg : tg ≠ ka := ne_of htg (e3 _ _ upd_same) (by intro z; cases z)
    have e13 : Same H (upd H3 p3 (.tup [.ref ka, .ref tg])) := e1.trans (((same_upd hka1).trans e3).trans (same_upd hp3))
    refine q_forE (K := K) (z := nmS r) (ev_tv rfl) (fun i σ H' => (∃ x6 x7 x8 x9 x10 x11 x12 x13 x14 x15 x16, σ = [some (.ref sa), some (.int at_), some (.bl lossy), some (.str (nmS r)), some (.ref ka), some (.ref tg), x6, x7, x8, x9, x10, x11, x12, x13, x14, x15, x16]) ∧ Same H H' ∧
        H' tg = some (.lst ((tgs (1 + r)).map V.str)) ∧ ∃ kv ks, H' ka = some (.dK kv) ∧ Dk H' kv (kd ks) ∧ DKn (1 + r) i ks)
      (fun H' e => ⟨⟨none, none, none, none, none, none, none, none, none, none, none, rfl⟩, e13.trans e, e _ _ (same_upd hp3 _ _ htg), [], [], e _ _ (same_upd hp3 _ _ (e3 _ _ upd_same)), .nil, ⟨by rw [List.take_zero]; rfl, (fun p h => nomatch h), fun j x r y h => by simp at h⟩⟩) (fun i c σ' H4 H5 hc q e45 => ?_) (fun σ' H' q => ?_)
    · obtain ⟨⟨x6, x7, x8, x9, x10, x11, x12, x13, x14, x15, x16, rfl⟩, e04, htg4, kv, ks, hkv, hdk, dk⟩ := q
      have e05 := e04.trans e45
      have hz := nm_at hr4 hc
      have hi4 : i < 4 := by
        have := Array.getElem?_eq_some_iff.mp hc
        obtain ⟨w, _⟩ := this
        rw [nm_size r hr4] at w
        omega
      refine q_asgL el_nil fun ra H6 hra5 e56 hra => ?_
      refine q_forR1 (n := 2) (ea_cons ev_tc fun _ _ => ea_nil) (by decide) (fun j σ H' => (∃ x9 x10 x11 x12 x13 x14 x15 x16, σ = [some (.ref sa), some (.int at_), some (.bl lossy), some (.str (nmS r)), some (.ref ka), some (.ref tg), some (.int (i : Nat)), some (.str ⟨#[c]⟩), some (.ref ra), x9, x10, x11, x12, x13, x14, x15, x16]) ∧ Same H5 H' ∧
        ∃ vs rs, H' ra = some (.lst vs) ∧ Dts H' vs (rs.map dRow) ∧ rs.length = j ∧ ∀ k rr, rs[k]? = some rr → PR (1 + r) k rr)
        (fun H' e => ⟨⟨_, _, _, _, _, _, _, _, rfl⟩, e56.trans e, [], [], e _ _ hra, .nil, rfl, fun k rr h => by simp at h⟩) (fun j σ' H7 hj q => ?_) (fun σ' H7 q => ?_)
      · obtain ⟨⟨x9, x10, x11, x12, x13, x14, x15, x16, rfl⟩, e57, vs, rs, hvs, hds, hrl, hrs⟩ := q
        refine q_tup2R (R1 := fun v H8 => ∃ p, v = .ref p ∧ H7 p = none ∧ Same H7 H8 ∧ H8 p = some (.lst [])) (R2 := fun v w H8 => ∃ p, v = .ref p ∧ H7 p = none ∧ Same H7 H8 ∧ H8 p = some (.lst []) ∧ w = .int ((at_ + 10 + 40 * i + 12 * j : Nat)))
          (fun Q q => el_nil Q fun p H8 hp e hx => q _ _ ⟨p, rfl, hp, e, hx⟩) (fun v H8 hv Q q => ?_) fun v w H8 p8 hvw hp8 => ?_
        · obtain ⟨p, rfl, hp, e, hx⟩ := hv
          refine ev_is (ev_I0 (ev_I0 (ev_I0 (ev_tv rfl) fun _ _ => ev_tc) fun _ _ => ev_I ev_tc (fun _ _ => ev_tv rfl) (.inl ⟨by decide, by decide⟩)) fun _ _ => ev_I ev_tc (fun _ _ => ev_tv rfl) (.inl ⟨by decide, by decide⟩)) (congrArg V.int ints_at) Q fun H9 e9 => q _ _ ⟨p, rfl, hp, e.trans e9, e9 _ _ hx, rfl⟩
        obtain ⟨ro, rfl, hro7, e78, hro8, rfl⟩ := hvw
        have e78' := e78.trans (same_upd (o := HO.tup [V.ref ro, V.int ((at_ + 10 + 40 * i + 12 * j : Nat))]) hp8)
        have hro9 := same_upd (o := HO.tup [V.ref ro, V.int ((at_ + 10 + 40 * i + 12 * j : Nat))]) hp8 _ _ hro8
        generalize upd H8 p8 (.tup [V.ref ro, V.int ((at_ + 10 + 40 * i + 12 * j : Nat))]) = H9 at e78' hro9
        have hF : at_ + 10 + 40 * i + 12 * j ≤ 2000 := by omega
        generalize at_ + 10 + 40 * i + 12 * j = F at hF
        have e09 : Same H H9 := e05.trans (e57.trans e78')
        have s9 : ∀ {H'}, Same H9 H' → Same H H' := fun e => e09.trans e
        refine q_forRN (P := fun n => (j = 0 → n ≤ 2) ∧ (j ≠ 0 → 1 ≤ n ∧ n ≤ 3)) (evn_if (b := decide (V.int (j : Nat) = V.int 0)) (EvB.of' (ev_eq (ev_tv rfl) (fun _ _ => ev_tc) rfl))
          (fun hb H10 e10 => evn_mono (dr (m := 3) rfl (s9 e10) (fun _ _ => ev_tv rfl) (fun _ _ => ev_tc) (by omega) (by decide) (by decide)) fun n hn => ⟨fun _ => by omega, fun h => absurd ?_ h⟩)
          (fun hb H10 e10 => evn_mono (evn_add1 (dr (m := 3) rfl (s9 e10) (fun _ _ => ev_tv rfl) (fun _ _ => ev_tc) (by omega) (by decide) (by decide))) fun n ⟨m, hm, hn⟩ => ⟨fun h => absurd hb ?_, fun _ => by omega⟩)) fun n H10 hn e10 => ?_
        · have := of_decide_eq_true hb
          injection this with this
          omega
        · subst h
          decide
        have e010 := s9 e10
        refine q_forR1 (n := n) (ea_cons ev_tc fun _ _ => ea_nil) (by omega) (fun t σ H' => (∃ x12 x13 x14 x15 x16, σ = [some (.ref sa), some (.int at_), some (.bl lossy), some (.str (nmS r)), some (.ref ka), some (.ref tg), some (.int (i : Nat)), some (.str ⟨#[c]⟩), some (.ref ra), some (.int (j : Nat)), some (.ref ro), some (.int (F : Nat)), x12, x13, x14, x15, x16]) ∧ Same H7 H' ∧
          ∃ vs ds, H' ro = some (.lst vs) ∧ Dts H' vs (ds.map dDrop) ∧ ds.length = t ∧ ∀ d ∈ ds, okd (1 + r) d)
          (fun H' e => ⟨⟨_, _, _, _, _, rfl⟩, e78'.trans (e10.trans e), [], [], e _ _ (e10 _ _ hro9), .nil, rfl, fun d h => nomatch h⟩) (fun t σ' H11 ht q => ?_) (fun σ' H11 q => ?_)
        · obtain ⟨⟨x12, x13, x14, x15, x16, rfl⟩, e711, ws, ds, hws, hdd, hdl, hok⟩ := q
          have e011 : Same H H11 := e05.trans (e57.trans e711)
          refine q_asgN (evn_ix5 (K := K) fun H12 e12 => dr (a := F + 4 + 5 * t) (m := 5) rfl (e011.trans e12) (fun _ _ => ev_is (ev_I0 (ev_I0 (ev_tv rfl) fun _ _ => ev_tc) fun _ _ => ev_I ev_tc (fun _ _ => ev_tv rfl) (.inl ⟨by decide, by decide⟩)) (congrArg V.int ints_a2)) (fun _ _ => ev_tc) (by omega) (by decide) (by decide)) fun m H12 hm e12 => ?_
          refine s_appR (K := K) (xs := ws) (fun v H' => Same H12 H' ∧ ∃ p zs, v = .ref p ∧ H' p = some (.tup (zs.map V.str)) ∧ okd (1 + r) zs) (e12 _ _ hws) (ev_tv rfl) (fun H13 e13' Q q => ?_) (fun v H' h => h.1 _ _ (e12 _ _ hws)) (by rw [hdd.length, List.length_map]; omega) (fun v H13 hv => ?_)
          · have e013 : Same H H13 := e011.trans (e12.trans e13')
            refine eu_tupOfR (K := K) (R := fun zs => okd (1 + r) zs) (fun Q1 q1 => ?_) Q fun p H14 zs hzs e14 hp => q _ _ ⟨e13'.trans e14, p, zs, rfl, hp, hzs⟩
            refine ⟨_, rfl, (m : Nat), rfl, by omega, by omega, fun Dd hDd => ?_⟩
            refine lc_strs (E := E) (S := fun z => z ∈ tgs (1 + r)) hm (fun x => rfl) (fun i2 H14 hi2 e14 Q2 q2 => ?_) Dd hDd fun zs hzl hz2 H14 e14 hx => q1 Dd H14 zs ⟨by omega, hz2⟩ e14 hx
            have htg14 := e14 _ _ (e13' _ _ (e12 _ _ (e711 _ _ (e57 _ _ (e45 _ _ htg4)))))
            refine ⟨_, rfl, dr (a := F + 5 + 5 * t + i2) (m := ((tgs (1 + r)).map V.str).length) rfl (e013.trans e14) (fun _ _ => ev_is (ev_I0 (ev_I0 (ev_I0 (ev_tv rfl) fun _ _ => ev_tc) fun _ _ => ev_I ev_tc (fun _ _ => ev_tv rfl) (.inl ⟨by decide, by decide⟩)) fun _ _ => ev_tv rfl) (congrArg V.int ints_a3))
              (fun H' e' => ev_lenL (ev_tv rfl) (e' _ _ htg14)) (by omega) (by rw [List.length_map]; exact tgs_pos _) (by rw [List.length_map]; exact tgs_len _) _ fun x H15 hx e15 => ?_⟩
            rw [List.length_map] at hx
            exact ⟨tg, _, (x : Nat), .str (tgs (1 + r))[x], rfl, rfl, SqL.of (e15 _ _ htg14), atI_nat (by rw [List.getElem?_map, List.getElem?_eq_getElem hx]; rfl), q2 _ _ (List.getElem_mem hx) e15⟩
          · obtain ⟨e13', p, zs, rfl, hp, hzs⟩ := hv
            have htsm : Tsm H11 (upd H13 ro (.lst (ws ++ [.ref p]))) := (Tsm.same (e12.trans e13')).trans (Tsm.upd fun xs h => by rw [e13' _ _ (e12 _ _ hws)] at h; cases h)
            refine ⟨⟨_, _, _, _, _, rfl⟩, Same.mut (e711.trans (e12.trans e13')) hro7, _, ds ++ [zs], upd_same, ?_, by rw [List.length_append, hdl]; rfl, fun d hd => ?_⟩
            · rw [List.map_append]
              refine (hdd.drops_ts htsm).append (.cons (.tup (xs := zs.map V.str) ?_ (Dts.strs zs)) .nil)
              rw [upd_ne (fun z => by rw [z, e13' _ _ (e12 _ _ hws)] at hp; cases hp)]
              exact hp
            · rcases List.mem_append.mp hd with h | h
              · exact hok d h
              · rw [List.mem_singleton.mp h]
                exact hzs
        · obtain ⟨⟨x12, x13, x14, x15, x16, rfl⟩, e711, ws, ds, hws, hdd, hdl, hok⟩ := q
          have hvs11 := e711 _ _ hvs
          refine s_appR (K := K) (xs := vs) (fun v H' => Same H11 H' ∧ ∃ p, v = .ref p ∧ H' p = some (.tup ws)) hvs11 (ev_tv rfl) (fun H13 e13' Q q => ?_) (fun v H' h => h.1 _ _ hvs11) (by rw [hds.length, List.length_map]; omega) (fun v H13 hv => ?_)
          · exact ⟨_, rfl, ro, ws, rfl, .inl ⟨SqL.of (e13' _ _ hws), fun l hl => q _ _ ⟨e13'.trans (same_upd hl), l, rfl, upd_same⟩⟩⟩
          · obtain ⟨e13', p, rfl, hp⟩ := hv
            have htsm : Tsm H11 (upd H13 ra (.lst (vs ++ [.ref p]))) := (Tsm.same e13').trans (Tsm.upd fun xs h => by rw [e13' _ _ hvs11] at h; cases h)
            refine ⟨⟨_, _, _, _, _, _, _, _, rfl⟩, Same.mut (e57.trans (e711.trans e13')) hra5, _, rs ++ [ds], upd_same, ?_, by rw [List.length_append, hrl]; rfl, fun k rr hk => ?_⟩
            · rw [List.map_append]
              refine (hds.rowsL_ts ((Tsm.same e711).trans htsm)).append (.cons (.tup (xs := ws) ?_ (hdd.drops_ts htsm)) .nil)
              rw [upd_ne (fun z => by rw [z, e13' _ _ hvs11] at hp; cases hp)]
              exact hp
            · by_cases hk2 : k < rs.length
              · rw [List.getElem?_append_left hk2] at hk
                exact hrs k rr hk
              · rw [List.getElem?_append_right (by omega)] at hk
                have hk3 : k - rs.length = 0 := by
                  rcases Nat.eq_zero_or_pos (k - rs.length) with h | h
                  · exact h
                  · rw [List.getElem?_eq_none_iff.mpr (by show 1 ≤ _; omega)] at hk
                    cases hk
                rw [hk3] at hk
                cases hk
                have hkj : k = j := by omega
                subst hkj
                exact ⟨hok, fun h => by rw [hdl]; exact hn.1 h, fun h => by rw [hdl]; exact hn.2 h⟩
      · obtain ⟨⟨x9, x10, x11, x12, x13, x14, x15, x16, rfl⟩, e57, vs, rs, hvs, hds, hrl, hrs⟩ := q
        obtain ⟨r0, r1, rfl⟩ : ∃ r0 r1, rs = [r0, r1] := by
          match rs, hrl with
          | [a, b], _ => exact ⟨a, b, rfl⟩
        have p0 := hrs 0 r0 rfl
        have p1 := hrs 1 r1 rfl
        obtain ⟨v0, v1, rfl, d0, d1⟩ : ∃ v0 v1, vs = [v0, v1] ∧ Dt H7 v0 (dRow r0) ∧ Dt H7 v1 (dRow r1) := by
          cases hds with
          | cons h k =>
            cases k with
            | cons h2 k =>
              cases k
              exact ⟨_, _, rfl, h, h2⟩
        have e07 : Same H H7 := e05.trans e57
        have ksl : ks.length = i := by
          have h1 : (kn ks).length = ks.length := List.length_map _
          rw [← h1, dk.names, List.length_take, ab_len hr4]
          have h2 : i < (ab.take (1 + r)).length := (List.getElem?_eq_some_iff.mp hz).1
          rw [ab_len hr4] at h2
          omega
        have kvl : kv.length = ks.length := by rw [hdk.length]; exact List.length_map _
        have p1l := p1.2.2 (by decide)
        have p0l := p0.2.1 rfl
        have orl := oRow_len lossy
        have nxl := nxt_len (1 + r) (i + 1)
        refine q_asgD (d := dRow (nxt (1 + r) (i + 1))) (evd_if (b := decide (((i : Nat) : Int) + 1 < ((nmS r).length : Nat))) (EvB.of' (ev_I0 (ev_I0 (ev_tv rfl) fun _ _ => ev_tc) fun _ _ => ev_lenS (ev_tv rfl) (by show (nmS r).cps.size ≤ _; rw [nm_size r hr4]; omega))) (fun hb H' e' => ?_) (fun hb H' e' => ?_)) fun v2 H8 e78 d2 => ?_
        · have h1 := of_decide_eq_true hb
          have h2 : ((nmS r).length : Nat) = 1 + r := nm_size r hr4
          rw [h2] at h1
          have h3 : i + 1 < (ab.take (1 + r)).length := by rw [ab_len hr4]; omega
          obtain ⟨c', hc', hy⟩ := nm_cp hr4 (List.getElem?_eq_getElem h3)
          rw [nxt_some (List.getElem?_eq_getElem h3), hy]
          exact evd_tup1 (evd_tup1 (evd_of (ev_ixS (i := i + 1) (ev_tv rfl) (fun _ _ => ev_is (ev_I0 (ev_tv rfl) fun _ _ => ev_tc) (congrArg V.int (by omega))) (by rw [h2]; omega) hc') (.str _)))
        · have h1 := of_decide_eq_false hb
          have h2 : ((nmS r).length : Nat) = 1 + r := nm_size r hr4
          rw [h2] at h1
          rw [nxt_none (List.getElem?_eq_none_iff.mpr (by rw [ab_len hr4]; omega))]
          exact evd_tup0
        refine q_asgD (d := .tuple (r1.map dDrop ++ (nxt (1 + r) (i + 1)).map dDrop ++ (oRow lossy).map dDrop)) (evd_cat (evd_cat (evd_of (ev_ixL (K := K) (i := 1) (ev_tv rfl) (fun _ _ => ev_tc) (e78 _ _ hvs) rfl) (d1.go e78)) (fun H' e' => evd_of (ev_tv rfl) (d2.go e')) (by rw [List.length_map, List.length_map]; omega)) (fun H' e' => evd_if (b := lossy) (fun Q q => ⟨_, rfl, _, rfl, q _ (Same.refl _)⟩) (fun hb H2 e2 => ?_) (fun hb H2 e2 => ?_)) (by rw [List.length_append, List.length_map, List.length_map, List.length_map]; omega)) fun v3 H9 e89 d3 => ?_
        · subst hb
          exact evd_tup1 (evd_tup1 (evd_of ev_tc (.str _)))
        · subst hb
          exact evd_tup0
        obtain ⟨tn, htn⟩ : ∃ tn : Row, tn = r1 ++ nxt (1 + r) (i + 1) ++ oRow lossy := ⟨_, rfl⟩
        have htn2 : r1.map dDrop ++ (nxt (1 + r) (i + 1)).map dDrop ++ (oRow lossy).map dDrop = tn.map dDrop := by rw [htn, List.map_append, List.map_append]
        rw [htn2] at d3
        have htl : 1 ≤ tn.length ∧ tn.length ≤ 5 := by
          rw [htn, List.length_append, List.length_append]
          omega
        refine q_asgN (dr (a := at_ + 260 + i) (m := (tn.map dDrop).length) rfl (e07.trans (e78.trans e89)) (fun _ _ => ev_is (ev_I0 (ev_I0 (ev_tv rfl) fun _ _ => ev_tc) fun _ _ => ev_tv rfl) (congrArg V.int (by omega))) (fun H' e' => ev_lenDt (ev_tv rfl) (d3.go e')) (by omega) (by rw [List.length_map]; omega) (by rw [List.length_map]; omega)) fun cut H10 hcut e910 => ?_
        rw [List.length_map] at hcut
        have e710 := e78.trans (e89.trans e910)
        refine s_dputD (a := ka) (k := .inr ⟨#[c]⟩) (kvs := kv) (d := dRows (r0, tn.drop cut ++ tn.take cut)) ?_ (fun _ _ => ev_tv rfl) (fun _ _ => ev_tv rfl) (e710 _ _ (e57 _ _ (e45 _ _ hkv))) ?_ fun v4 H11 e1011 d4 => ?_
        · have z := evd_tup2 (σ := [some (.ref sa), some (.int at_), some (.bl lossy), some (.str (nmS r)), some (.ref ka), some (.ref tg), some (.int (i : Nat)), some (.str ⟨#[c]⟩), some (.ref ra), x9, x10, x11, some v3, x13, some v2, some (.int (cut : Nat)), x16])
            (evd_of (ev_ixL (K := K) (i := 0) (ev_tv (i := 8) rfl) (fun _ _ => ev_tc) (e710 _ _ hvs) rfl) (d0.go e710)) (fun H' e' => evd_cat (K := K) (evd_from (K := K) (evd_of (ev_tv (i := 12) rfl) (d3.go (e910.trans e'))) (fun _ _ => ev_tv (i := 15) rfl)) (fun H2 e2 => evd_upto (K := K) (evd_of (ev_tv (i := 12) rfl) (d3.go (e910.trans (e'.trans e2)))) (fun _ _ => ev_tv (i := 15) rfl)) (by rw [List.length_drop, List.length_take, List.length_map]; omega))
          rw [← List.map_drop, ← List.map_take, ← List.map_append] at z
          exact z
        · rw [kvl]
          omega
        have z_no : (⟨#[c]⟩ : Str) ∉ kn ks := by
          rw [dk.names]
          exact not_in_take (ab_nodup _) hz
        have v_no : valV kv (.inr ⟨#[c]⟩) = none := hdk.none (kd_none z_no)
        have e011 : Same H H11 := e07.trans (e710.trans e1011)
        have hka11 := e1011 _ _ (e710 _ _ (e57 _ _ (e45 _ _ hkv)))
        have tsm : Tsm H11 (upd H11 ka (.dK (putK kv (.inr ⟨#[c]⟩) v4))) := Tsm.upd fun xs h => by rw [hka11] at h; cases h
        refine ⟨⟨_, _, _, _, _, _, _, _, _, _, _, rfl⟩, Same.mut e011 hka, ?_, _, ks ++ [(⟨#[c]⟩, (r0, tn.drop cut ++ tn.take cut))], upd_same, ?_, ⟨?_, fun p hp => ?_, fun j x rr y hj hy => ?_⟩⟩
        · rw [upd_ne ne_tg]
          exact e1011 _ _ (e710 _ _ (e57 _ _ (e45 _ _ htg4)))
        · rw [putK_new _ v_no]
          show Dk _ _ ((ks ++ [_]).map _)
          rw [List.map_append]
          have z := Dk.snoc (k := ⟨#[c]⟩) d4 (hdk.go (e45.trans (e57.trans (e710.trans e1011))))
          have z2 := Dk.kd_ts (ks := ks ++ [(⟨#[c]⟩, (r0, tn.drop cut ++ tn.take cut))]) tsm (by
            show Dk _ _ ((ks ++ [_]).map _)
            rw [List.map_append]
            exact z)
          rw [putK_new _ v_no] at z2
          show Dk _ _ _
          have z3 : kd (ks ++ [(⟨#[c]⟩, (r0, tn.drop cut ++ tn.take cut))]) = _ := List.map_append
          rw [z3] at z2
          exact z2
        · show ((ks ++ [_]).map _) = _
          rw [List.map_append]
          have e1 : ks.map (fun p => p.1) = (ab.take (1 + r)).take i := dk.names
          show ks.map (fun p => p.1) ++ [_] = _
          rw [e1, take_snoc hz]
        · refine (List.mem_append.mp hp).elim (fun h => ?_) (fun h => ?_)
          · exact dk.rows p h
          · rw [List.mem_singleton.mp h]
            have lt : (tn.drop cut ++ tn.take cut).length = tn.length := by rw [List.length_append, List.length_drop, List.length_take]; omega
            refine ⟨p0l, by rw [lt]; exact htl.1, by rw [lt]; exact htl.2, p0.1, fun d hd => ?_⟩
            have hd2 : d ∈ tn := (List.mem_append.mp hd).elim List.mem_of_mem_drop List.mem_of_mem_take
            rw [htn] at hd2
            rcases List.mem_append.mp hd2 with h | h
            · refine (List.mem_append.mp h).elim (fun h => ?_) (fun h => ?_)
              · exact p1.1 d h
              · exact nxt_ok d h
            · exact oRow_ok d h
        · by_cases hj2 : j < ks.length
          · rw [List.getElem?_append_left hj2] at hj
            exact dk.next j x rr y hj hy
          · rw [List.getElem?_append_right (by omega)] at hj
            have hk3 : j - ks.length = 0 := by
              rcases Nat.eq_zero_or_pos (j - ks.length) with h | h
              · exact h
              · rw [List.getElem?_eq_none_iff.mpr (by show 1 ≤ _; omega)] at hj
                cases hj
            rw [hk3] at hj
            cases hj
            have hji : j = i := by omega
            subst hji
            have hm : [y] ∈ tn := by
              rw [htn]
              refine List.mem_append_left _ (List.mem_append_right _ ?_)
              rw [nxt_some hy]
              exact List.mem_cons_self
            show [y] ∈ tn.drop cut ++ tn.take cut
            rw [← List.take_append_drop cut tn] at hm
            exact (List.mem_append.mp hm).elim (List.mem_append_right _) (List.mem_append_left _)
    · obtain ⟨⟨x6, x7, x8, x9, x10, x11, x12, x13, x14, x15, x16, rfl⟩, e04, htg4, kv, ks, hkv, hdk, dk⟩ := q
      rw [nm_size r hr4] at dk
      exact s_ret (ev_tv rfl) fun H' e => k ka kv ks r H' hr4 hka (e04.trans e) (e _ _ hkv) (hdk.go e) dk
end
end Bc

namespace Bc
open PySem L2 PyProof.Rows StX
theorem valV_no {kvs : List (Key × V)} {k : Key} : k ∉ kvs.map (fun p => p.1) → valV kvs k = none := by
  induction kvs with
  | nil => intro _; rfl
  | cons p r ih =>
    intro h
    obtain ⟨j, v⟩ := p
    rw [valV_cons, if_neg (fun e => h (by rw [e]; exact List.mem_cons_self))]
    exact ih fun m => h (List.mem_cons_of_mem _ m)
theorem merge_nd : ∀ {more acc : List (Key × V)}, ((acc ++ more).map fun p => p.1).Nodup → mergeK acc more = acc ++ more
  | [], acc, _ => by rw [List.append_nil]; rfl
  | (k, v) :: r, acc, h => by
    have hk : k ∉ acc.map (fun p => p.1) := fun m => by
      rw [List.map_append] at h
      exact (List.nodup_append.mp h).2.2 k m k (by rw [List.map_cons]; exact List.mem_cons_self) rfl
    show mergeK (putK acc k v) r = _
    rw [putK_new v (valV_no hk)]
    have e : acc ++ (k, v) :: r = (acc ++ [(k, v)]) ++ r := by rw [List.append_assoc]; rfl
    rw [e] at h ⊢
    exact merge_nd h
theorem merge_nd0 {kvs : List (Key × V)} (h : (kvs.map fun p => p.1).Nodup) : mergeK [] kvs = kvs := merge_nd (acc := []) h
theorem paired_append {α β : Type} {F : α → β → Prop} : ∀ {a c : List α} {b d : List β}, Paired F a b → Paired F c d → Paired F (a ++ c) (b ++ d)
  | _, _, _, _, .nil, h => h
  | _, _, _, _, .cons h r, k => .cons h (paired_append r k)
theorem paired_rev {α β : Type} {F : α → β → Prop} : ∀ {a : List α} {b : List β}, Paired F a b → Paired F a.reverse b.reverse
  | _, _, .nil => .nil
  | _, _, .cons h r => by
    rw [List.reverse_cons, List.reverse_cons]; exact paired_append (paired_rev r) (.cons h .nil)
section
variable {K : PySem.W.Frag} {σ : L2.St} {H : Hp} {ta tb te : TE} {D : Ends} {u : TS}
/-- {k1: .., k2: ..} -/
theorem ek_disp2 {k1 k2 : Str} {t1 t2 : TE} {v1 v2 : V} (h1 : ∀ H', Same H H' → Ev t1 σ H' v1) (h2 : ∀ H', Same H H' → Ev t2 σ H' v2) (ne : k1 ≠ k2) : EvK (tDisp [(tC (.str k1), t1), (tC (.str k2), t2)]) σ H [(.inr k1, v1), (.inr k2, v2)] := fun Q q p hp =>
  h1 _ (same_upd hp) _ fun H1 e1 => h2 _ ((same_upd hp).trans e1) _ fun H2 e2 => ⟨e2 _ _ (e1 _ _ upd_same), [(.inr k1, v1), (.inr k2, v2)], rfl, (show 2 ≤ 15 by decide), by
    rw [merge_nd0 (by simpa using ne)]
    exact q p _ hp (Same.mut (((same_upd hp).trans e1).trans e2) hp) upd_same⟩
theorem ek_disp1 {k1 : Str} {t1 : TE} {v1 : V} (h1 : ∀ H', Same H H' → Ev t1 σ H' v1) : EvK (tDisp [(tC (.str k1), t1)]) σ H [(.inr k1, v1)] := fun Q q p hp =>
  h1 _ (same_upd hp) _ fun H1 e1 => ⟨e1 _ _ upd_same, [(.inr k1, v1)], rfl, (show 1 ≤ 15 by decide), q p _ hp (Same.mut ((same_upd hp).trans e1) hp) upd_same⟩
/-- list(d), d a dict -/
abbrev rListDK : List V → Hp → VK → Prop := fun xs H Q => ∃ (a : Addr) (kvs : List (Key × V)), xs = [.ref a] ∧ Rd H a (.dK kvs) ∧ ∀ p, H p = none → Q (.ref p) (upd H p (.lst (kvs.map fun kv => kV kv.1)))
theorem el_listD {a : Addr} {kv : List (Key × V)} {zs : List Str} (ha : Ev ta σ H (.ref a)) (h : H a = some (.dK kv)) (hk : kv.map (·.1) = zs.map Sum.inr) : EvL (tCB rListDK (tCons ta tNil)) σ H (zs.map V.str) := fun Q q =>
  ha _ fun H1 e1 => ⟨a, kv, rfl, .inl (e1 _ _ h), fun p hp => q p _ (e1.free hp) (e1.trans (same_upd hp)) (by
    rw [upd_same]
    have e2 : (kv.map fun p => kV p.1) = (kv.map (·.1)).map kV := by rw [List.map_map]; rfl
    rw [e2, hk, List.map_map]
    rfl)⟩
theorem el_sortS {os : List Str} (h : EvL ta σ H (os.map V.str)) (hl : os.length < 64) : EvL (tCB (rSortedS K) (tCons ta tNil)) σ H ((srt os).map V.str) := fun Q q =>
  h _ fun c H1 hc e1 hx => ⟨c, os, rfl, SqL.of hx, hl, fun ys p h1 h2 h3 => by
    have e := srt_is h1 h2
    subst e
    exact q p _ (e1.free h3) (e1.trans (same_upd h3)) upd_same⟩
/-- l[r], r some place -/
theorem evx_ix {xs : List V} (h : EvL ta σ H xs) (hn : ∀ H', Same H H' → EvN tb σ H' fun r => r < xs.length) (Q : VK) (q : ∀ v H', v ∈ xs → Same H H' → Q v H') : tOp (rIxL K) ta tb σ H Q :=
  h _ fun p H1 hp e1 hx => hn H1 e1 _ fun r H2 hr e2 => ⟨p, xs, (r : Nat), xs[r], rfl, rfl, SqL.of (e2 _ _ hx), atI_nat (List.getElem?_eq_getElem hr), q _ _ (List.getElem_mem hr) (e1.trans e2)⟩
/-- list(d.items()) -/
theorem el_items {a : Addr} {kvs : List (Key × V)} (ha : Ev ta σ H (.ref a)) (h : H a = some (.dK kvs)) (Q : VK) (q : ∀ p H' ts, H p = none → Same H H' → H' p = some (.lst (ts.map V.ref)) → Paired (fun t kv => H' t = some (.tup [kV kv.1, kv.2])) ts kvs → Q (.ref p) H') : LiI.tListItems ta σ H Q :=
  ha _ fun H1 e1 => ⟨a, kvs, rfl, e1 _ _ h, fun H' p ts e2 hp _ _ hx hw => q p H' ts (e1.free hp) (e1.trans e2) hx hw⟩
/-- dict(pairs) -/
theorem ek_dictP {kvs : List (Key × V)} (h : ∀ Q : VK, (∀ p H' ts, H p = none → Same H H' → H' p = some (.lst (ts.map V.ref)) → Paired (fun t kv => H' t = some (.tup [kV kv.1, kv.2])) ts kvs → Q (.ref p) H') → ta σ H Q) :
    EvK (tCB (fun xs H Q => ∃ (a : Addr) (ps : List Addr) (kvs : List (Key × V)), xs = [.ref a] ∧ SqL K H a (ps.map V.ref) ∧ Paired (fun p kv => SqT K H p [kV kv.1, kv.2]) ps kvs ∧ ∀ p, H p = none → Q (.ref p) (upd H p (.dK (mergeK [] kvs)))) (tCons ta tNil)) σ H (mergeK [] kvs) := fun Q q =>
  h _ fun p H1 ts hp e1 hx hw => ⟨p, ts, kvs, rfl, SqL.of hx, L2.Paired.mapP hw fun _ _ h => SqT.of h, fun p' hp' => q p' _ (e1.free hp') (e1.trans (same_upd hp')) upd_same⟩
end
section
variable {P : Program} {w : World} {K : PySem.W.Frag} {mg : Str → Option Value} {base : Heap} {ad : Ad}
/-! ### _law_inlets -/
def insD (y : Str) : List (Key × V) := [(.inr "i", .str "a"), (.inr "j", .str y)]
def spLInlets (K : PySem.W.Frag) : Sp := fun vs H Q _ => ∃ (s : Addr) (ns : List Int) (at_ : Nat) (a : Addr) (kv : List (Key × V)) (zs : List Str), vs = [.ref s, .int at_, .ref a] ∧ SqL K H s (ns.map V.int) ∧ ns.length ≤ 63 ∧ at_ ≤ 1000 ∧ H a = some (.dK kv) ∧ kv.map (·.1) = zs.map Sum.inr ∧ 1 ≤ zs.length ∧ zs.length ≤ 60 ∧
  ∀ p y H', y ∈ zs → H p = none → Same H H' → H' p = some (.dK (insD y)) → Q (.ref p) H'
theorem scLInlets : FnScope ["script", "at", "knots"] ["script", "at", "knots"] (defScope sLInlets) := ⟨rfl, rfl, rfl, by decide +kernel, rfl, by decide +kernel, by decide +kernel⟩
theorem ok_linlets (T : Tx K mg ad) : FnOk P w K mg base CX0 3 ad.lInlets ad.dLInlets ["script", "at", "knots"] (spLInlets K) := by
  have G : FnOk P w K mg base CX0 2 ad.draw ad.dDraw ["script", "at", "many"] (spDraw K) := ok_draw T
  have b := T.fDraw.binds (ps := ["script", "at", "many"]) fun _ _ _ _ _ _ us hl => match us, hl with | [_, _, _], _ => rfl
  refine T.fLInlets.ok scLInlets (fun vs H Q E h => ?_) (fun cdv A outer s H vs Q E hr h => ?_)
  · obtain ⟨s, ns, at_, a, kv, zs, rfl, _⟩ := h
    rfl
  · obtain ⟨sa, ns, at_, a, kv, zs, rfl, hS, hl, hat, ha, hk, h1, h60, k⟩ := h
    refine ⟨_, pss_one (ps_ret (pe_disp (pps_cons pe_str pe_str (pps_cons pe_str (pe_ix ix_list (pe_callB cr_sortedS (by rfl) T.sorted b_sorted (pa_cons (pe_callTy (call_listD rfl) (by rfl) T.list b_list (pa_cons (pv 2) pa_nil)) pa_nil)) (pe_call G hr (by rfl) T.gDraw T.fDraw.kp b .nil pass0 (pa_cons (pv 0) (pa_cons (pv 1) (pa_cons (pe_callB call_lenD (by rfl) T.len PySem.boot_len (pa_cons (pv 2) pa_nil)) pa_nil)))) (fun _ _ => rfl)) pps_nil)) (by rfl) (by rfl) (by decide) (by decide))), ?_⟩
    have hm : kv.length = zs.length := by
      have := congrArg List.length hk
      rw [List.length_map, List.length_map] at this
      exact this
    refine fun p hp => ?_
    have s1 := same_upd (o := HO.dK []) hp
    have dr : ∀ H1, Same H H1 → EvN (tCall (spDraw K) [] E0 (tCons (tVar 0) (tCons (tVar 1) (tCons (tCB (fun xs H Q => ∃ a kvs, xs = [V.ref a] ∧ H a = some (.dK kvs) ∧ Q (.int (kvs.length : Nat)) H) (tCons (tVar 2) tNil)) tNil)))) [some (.ref sa), some (.int at_), some (.ref a)] H1 fun r => r < ((srt zs).map V.str).length := fun H1 e1 => by
      refine evn_mono (evn_draw (many := kv.length) (ea_cons (ev_tv rfl) fun H2 e2 => ea_cons (ev_tv rfl) fun H3 e3 => ea_cons (ev_lenD (ev_tv rfl) (e3 _ _ (e2 _ _ (e1 _ _ ha)))) fun _ _ => ea_nil) (Same.seqL e1 hS) hl (by omega) (by omega) (by omega)) fun n hn => ?_
      rw [List.length_map, (srt_perm zs).length_eq]
      omega
    refine evx_ix (K := K) (el_sortS (K := K) (el_listD (ev_tv rfl) (s1 _ _ ha) hk) (by omega)) (fun H1 e1 => dr H1 (s1.trans e1)) _ fun v H1 hv e1 => ?_
    obtain ⟨y, hy, rfl⟩ := List.mem_map.mp hv
    refine ⟨e1 _ _ upd_same, insD y, rfl, (show 2 ≤ 15 by decide), ?_⟩
    rw [merge_nd0 (by show ([.inr "i", .inr "j"] : List Key).Nodup; decide +kernel)]
    exact k p y _ ((srt_perm zs).mem_iff.mp hy) hp (Same.mut (s1.trans e1) hp) upd_same
end
end Bc

namespace Bc
open PySem L2 PyProof.Rows StX
/-- no knot is left out -/
def Met (ks : Knots) (is : Ins) : Prop := ∀ zs, Closed ks is zs → ∀ x ∈ kn ks, x ∈ zs
theorem nameErr_ok : ∀ {zs seen : List Str}, (∀ z ∈ zs, okName z = true) → (seen ++ zs).Nodup → nameErr seen (zs.map PyData.str) = none
  | [], _, _, _ => rfl
  | z :: r, seen, h, nd => by
    have h1 := h z List.mem_cons_self
    have nd2 : ((seen ++ [z]) ++ r).Nodup := by rw [List.append_assoc]; exact nd
    have h2 : z ∉ seen := fun m => (List.nodup_append.mp nd).2.2 z m z List.mem_cons_self rfl
    show (if (!okName z || decide (z ∈ seen)) = true then some (V.str z) else nameErr (seen ++ [z]) (r.map PyData.str)) = none
    rw [h1, decide_eq_false h2]
    exact nameErr_ok (fun y hy => h y (List.mem_cons_of_mem _ hy)) nd2
theorem okDrop_ok {S : Str → Bool} {d : Drop} (h1 : d.length ≤ 4) (h2 : ∀ x ∈ d, S x = true) : okDrop S (dDrop d) = true := by
  show (decide ((d.map PyData.str).length ≤ 4) && (d.map PyData.str).all (strD S)) = true
  rw [List.length_map, decide_eq_true h1, List.all_map]
  exact List.all_eq_true.mpr h2
theorem okRow_ok {S : Str → Bool} {r : Row} (h1 : r.length ≤ 12) (h2 : ∀ d ∈ r, d.length ≤ 4 ∧ ∀ x ∈ d, S x = true) : okRow S (dRow r) = true := by
  show (decide ((r.map dDrop).length ≤ 12) && (r.map dDrop).all (okDrop S)) = true
  rw [List.length_map, decide_eq_true h1, List.all_map]
  exact List.all_eq_true.mpr fun d hd => okDrop_ok (h2 d hd).1 (h2 d hd).2
structure OkRows (S : Str → Bool) (r : Rows) : Prop where
  front : r.1.length ≤ 12 ∧ ∀ d ∈ r.1, d.length ≤ 4 ∧ ∀ x ∈ d, S x = true
  turn : r.2.length ≤ 12 ∧ ∀ d ∈ r.2, d.length ≤ 4 ∧ ∀ x ∈ d, S x = true
  pos : 1 ≤ r.2.length
theorem okRows_ok {S : Str → Bool} {r : Rows} (h : OkRows S r) : okRows S (dRows r) = true := by
  show (okRow S (dRow r.1) && (okRow S (dRow r.2) && decide (0 < (r.2.map dDrop).length))) = true
  rw [okRow_ok h.front.1 h.front.2, okRow_ok h.turn.1 h.turn.2, List.length_map, decide_eq_true (Nat.lt_of_lt_of_le Nat.zero_lt_one h.pos)]
  rfl
theorem small_drop {d : Drop} (h : d.length ≤ 1000) : smallN 0 (dDrop d) := by
  show (d.map PyData.str).length ≤ 1000
  rw [List.length_map]
  exact h
theorem small_row {r : Row} (h1 : r.length ≤ 1000) (h2 : ∀ d ∈ r, d.length ≤ 1000) : smallN 1 (dRow r) := by
  refine ⟨?_, fun e he => ?_⟩
  · show (r.map dDrop).length ≤ 1000
    rw [List.length_map]
    exact h1
  · obtain ⟨d, hd, rfl⟩ := List.mem_map.mp (show e ∈ r.map dDrop from he)
    exact small_drop (h2 d hd)
theorem small_rows {r : Rows} (h1 : r.1.length ≤ 1000 ∧ ∀ d ∈ r.1, d.length ≤ 1000) (h2 : r.2.length ≤ 1000 ∧ ∀ d ∈ r.2, d.length ≤ 1000) : smallN 2 (dRows r) := by
  refine ⟨by show 2 ≤ 1000; decide, fun e he => ?_⟩
  rcases List.mem_cons.mp (show e ∈ [dRow r.1, dRow r.2] from he) with h | h
  · rw [h]; exact small_row h1.1 h1.2
  · rw [List.mem_singleton.mp h]; exact small_row h2.1 h2.2
structure OkNet (ks : Knots) (is : Ins) (os : List Str) : Prop where
  names : ∀ z ∈ kn ks ++ os ++ inn is, okName z = true ∧ z.length ≤ 1000 ∧ Bn.TellV (.str z)
  nd : (kn ks ++ os ++ inn is).Nodup
  rows : ∀ p ∈ ks, OkRows (fun x => decide (x ∈ kn ks ++ os)) p.2
  leads : ∀ p ∈ is, p.2 ∈ kn ks
  some : 1 ≤ ks.length
  few : ks.length ≤ 12
  insome : 1 ≤ is.length
  infew : is.length < 60
  ofew : os.length < 60
theorem rows_none {ks : Knots} {os : List Str} (nd : (kn ks).Nodup) (h : ∀ p ∈ ks, OkRows (fun x => decide (x ∈ kn ks ++ os)) p.2) : (srt (keysD (kd ks))).find? (rowsBad (kd ks) os) = none := by
  rw [List.find?_eq_none]
  intro z hz
  have hk : keysD (kd ks) = kn ks := kd_keys ks
  rw [hk] at hz
  obtain ⟨⟨z', r⟩, hm, rfl⟩ := List.mem_map.mp ((srt_perm _).mem_iff.mp hz)
  unfold rowsBad
  rw [kd_get nd hm, hk]
  show ¬ (!okRows _ (dRows r)) = true
  rw [okRows_ok (h _ hm)]
  decide
theorem in_none {ks : Knots} {is : Ins} (h : ∀ p ∈ is, p.2 ∈ kn ks) : (id_ is).find? (inBad (keysD (kd ks))) = none := by
  rw [List.find?_eq_none]
  intro p hp
  obtain ⟨q, hq, rfl⟩ := List.mem_map.mp hp
  have hk : keysD (kd ks) = kn ks := kd_keys ks
  show ¬ (!decide (q.2 ∈ keysD (kd ks))) = true
  rw [hk, decide_eq_true (h q hq)]
  decide
end Bc

namespace Bc
open PySem L2 PyProof.Rows StX
section
variable {C B : Addr} {H : Hp} {x a b c : Addr} {kv iv : List (Key × V)} {ks : Knots} {is : Ins} {os : List Str} {Q : VK} {E : XK}
/-- all checks but the last are passed -/
theorem end_net (N : NetIn H a b kv iv ks is) (hc : H c = some (.lst (os.map V.str)) ∨ H c = some (.tup (os.map V.str))) (ok : OkNet ks is os)
    (last : ∀ zs, Closed ks is zs → (∀ z ∈ zs, Reach ks is z) → (∃ z, (srt (kn ks)).find? (fun z => !decide (z ∈ zs)) = some z ∧ Raised B (.str z) H E) ∨ ((srt (kn ks)).find? (fun z => !decide (z ∈ zs)) = none ∧ ∀ H', Same H H' → NetNew H H' C x (srtD (kd ks)) (srtD (id_ is)) (srt os) → Q .non H')) :
    EndNames C B H x a kv (.ref b) (.ref c) Q E := by
  have hk : kv.map (·.1) = (kn ks).map Sum.inr := by rw [N.hkv.keys, kd_keys]
  have hi : iv.map (·.1) = (inn is).map Sum.inr := by rw [N.hiv.keys, id_keys]
  have kvl : kv.length = ks.length := by rw [N.hkv.length]; exact List.length_map _
  have ivl : iv.length = is.length := by rw [N.hiv.length]; exact List.length_map _
  have ol : (os.map V.str).length = os.length := List.length_map _
  have e1 : (kv.map fun kv : Key × V => kV kv.1) = (kn ks).map V.str := by
    have q := congrArg (List.map kV) hk
    rw [List.map_map, List.map_map] at q
    exact q
  have e2 : (iv.map fun kv : Key × V => kV kv.1) = (inn is).map V.str := by
    have q := congrArg (List.map kV) hi
    rw [List.map_map, List.map_map] at q
    exact q
  have hk0 : keysD (kd ks) = kn ks := kd_keys ks
  have hi0 : keysD (id_ is) = inn is := id_keys is
  have s1 := ok.some
  have s2 := ok.few
  have s3 := ok.insome
  have s4 := ok.infew
  have s5 := ok.ofew
  refine ⟨b, c, iv, os.map V.str, (kn ks ++ os ++ inn is).map PyData.str, rfl, rfl, N.ne, N.hb, hc, by omega, by omega, by omega, by omega, by omega, ?_, fun z hz => ?_, .inr ⟨nameErr_ok (fun z hz => (ok.names z hz).1) ok.nd, kd ks, id_ is, os, N.hkv, N.hiv, rfl, by rw [hk0, hi0]; exact ok.nd, fun p hp => ?_, fun p hp => ?_, .inr ⟨rows_none N.kn ok.rows, .inr ⟨in_none ok.leads, ks, is, rfl, rfl, N, last⟩⟩⟩⟩
  · rw [e1, e2, List.append_nil, ← List.append_assoc, ← List.map_append, ← List.map_append]
    exact Dts.strs _
  · obtain ⟨y, hy, e⟩ := List.mem_map.mp hz
    cases e
    exact (ok.names _ hy).2
  · obtain ⟨q, hq, rfl⟩ := List.mem_map.mp hp
    have r := ok.rows q hq
    exact ⟨small_rows ⟨by have := r.front.1; omega, fun d hd => by have := (r.front.2 d hd).1; omega⟩ ⟨by have := r.turn.1; omega, fun d hd => by have := (r.turn.2 d hd).1; omega⟩, (ok.names q.1 (List.mem_append_left _ (List.mem_append_left _ (List.mem_map.mpr ⟨q, hq, rfl⟩)))).2.2⟩
  · obtain ⟨q, hq, rfl⟩ := List.mem_map.mp hp
    exact (ok.names q.1 (List.mem_append_right _ (List.mem_map.mpr ⟨q, hq, rfl⟩))).2.2
/-- a net -/
theorem end_ok (N : NetIn H a b kv iv ks is) (hc : H c = some (.lst (os.map V.str)) ∨ H c = some (.tup (os.map V.str))) (ok : OkNet ks is os) (met : Met ks is) (k : ∀ H', Same H H' → NetNew H H' C x (srtD (kd ks)) (srtD (id_ is)) (srt os) → Q .non H') :
    EndNames C B H x a kv (.ref b) (.ref c) Q E := end_net N hc ok fun zs hcl _ => .inr ⟨by
  rw [List.find?_eq_none]
  intro z hz
  have := met zs hcl z ((srt_perm _).mem_iff.mp hz)
  rw [decide_eq_true this]
  decide, k⟩
/-- a knot that is not met: the first one -/
theorem end_unmet {z : Str} (N : NetIn H a b kv iv ks is) (hc : H c = some (.lst (os.map V.str)) ∨ H c = some (.tup (os.map V.str))) (ok : OkNet ks is os) (first : ∀ zs, Closed ks is zs → (∀ y ∈ zs, Reach ks is y) → (srt (kn ks)).find? (fun y => !decide (y ∈ zs)) = some z) (r : Raised B (.str z) H E) :
    EndNames C B H x a kv (.ref b) (.ref c) Q E := end_net N hc ok fun zs hcl hr => .inl ⟨z, first zs hcl hr, r⟩
end
end Bc

/-! facts of the drawn nets, in data -/
namespace Bc
open PySem L2 PyProof.Rows StX
/-! ### data of texts -/
theorem lay_strs {zs : List Str} : (∀ x ∈ zs, PyData.strOk x = true) → PyData.canLayAll0 (zs.map PyData.str) = true := by
  induction zs with
  | nil => intro _; rfl
  | cons z r ih =>
    intro h
    show (PyData.strOk z && PyData.canLayAll0 (r.map PyData.str)) = true
    rw [h z List.mem_cons_self, ih fun x hx => h x (List.mem_cons_of_mem _ hx)]
    rfl
theorem lay_map {α : Type} {f : α → PyData} {l : List α} (h : ∀ x ∈ l, (f x).canLay0 = true) : PyData.canLayAll0 (l.map f) = true := by
  induction l with
  | nil => rfl
  | cons z r ih =>
    show ((f z).canLay0 && PyData.canLayAll0 (r.map f)) = true
    rw [h z List.mem_cons_self, ih fun x hx => h x (List.mem_cons_of_mem _ hx)]
    rfl
theorem depth_map {α : Type} {f : α → PyData} {n : Nat} {l : List α} (h : ∀ x ∈ l, (f x).depth ≤ n) : PyData.depthAll (l.map f) ≤ n := by
  induction l with
  | nil => exact Nat.zero_le _
  | cons z r ih =>
    show max (f z).depth (PyData.depthAll (r.map f)) ≤ n
    have h1 := h z List.mem_cons_self
    have h2 := ih fun x hx => h x (List.mem_cons_of_mem _ hx)
    omega
theorem depth_strs (zs : List Str) : PyData.depthAll (zs.map PyData.str) ≤ 0 := depth_map fun _ _ => Nat.le_refl _
theorem lay_drop {d : Drop} (h : ∀ x ∈ d, PyData.strOk x = true) : (dDrop d).canLay0 = true := lay_strs h
theorem depth_drop (d : Drop) : (dDrop d).depth ≤ 1 := Nat.succ_le_succ (depth_strs d)
theorem lay_row {r : Row} (h : ∀ d ∈ r, ∀ x ∈ d, PyData.strOk x = true) : (dRow r).canLay0 = true := lay_map fun d hd => lay_drop (h d hd)
theorem depth_row (r : Row) : (dRow r).depth ≤ 2 := Nat.succ_le_succ (depth_map fun d _ => depth_drop d)
theorem lay_rows {r : Rows} (h1 : ∀ d ∈ r.1, ∀ x ∈ d, PyData.strOk x = true) (h2 : ∀ d ∈ r.2, ∀ x ∈ d, PyData.strOk x = true) : (dRows r).canLay0 = true := by
  show ((dRow r.1).canLay0 && ((dRow r.2).canLay0 && true)) = true
  rw [lay_row h1, lay_row h2]
  rfl
theorem depth_rows (r : Rows) : (dRows r).depth ≤ 3 := by
  have h1 := depth_row r.1
  have h2 := depth_row r.2
  show max (dRow r.1).depth (max (dRow r.2).depth 0) + 1 ≤ 3
  omega
theorem shaped_of {d : PyData} {n : Nat} (h : d.canLay0 = true) (k : d.depth ≤ n) (hn : n ≤ 64 := by decide) : SeqAt.shaped d = true := by
  show (d.canLay0 && decide (d.depth ≤ 64)) = true
  rw [h, decide_eq_true (Nat.le_trans k hn)]
  rfl
/-! ### == of data -/
theorem eqvAll_map {α : Type} [DecidableEq α] {f : α → PyData} (h : ∀ a b, PyData.eqv (f a) (f b) = decide (a = b)) : ∀ xs ys : List α, PyData.eqvAll (xs.map f) (ys.map f) = decide (xs = ys)
  | [], [] => rfl
  | [], _ :: _ => rfl
  | _ :: _, [] => rfl
  | x :: xs, y :: ys => by
    show (PyData.eqv (f x) (f y) && PyData.eqvAll (xs.map f) (ys.map f)) = _
    rw [h x y, eqvAll_map h xs ys]
    by_cases e : x = y
    · subst e
      simp
    · simp [e]
theorem eqv_str (a b : Str) : PyData.eqv (.str a) (.str b) = decide (a = b) := by
  show (a == b) = _
  by_cases e : a = b
  · subst e
    simp
  · simp [e]
theorem eqv_drop (a b : Drop) : PyData.eqv (dDrop a) (dDrop b) = decide (a = b) := eqvAll_map eqv_str a b
theorem eqv_row (a b : Row) : PyData.eqv (dRow a) (dRow b) = decide (a = b) := eqvAll_map eqv_drop a b
theorem eqv_rows (a b : Rows) : PyData.eqv (dRows a) (dRows b) = decide (a = b) := by
  show (PyData.eqv (dRow a.1) (dRow b.1) && (PyData.eqv (dRow a.2) (dRow b.2) && true)) = _
  rw [eqv_row, eqv_row]
  obtain ⟨a1, a2⟩ := a
  obtain ⟨b1, b2⟩ := b
  by_cases e1 : a1 = b1
  · by_cases e2 : a2 = b2
    · subst e1 e2
      simp
    · simp [e2]
  · simp [e1]
theorem eqDK_refl {ds : List (Str × PyData)} (hn : (ds.map fun p => p.1).Nodup) (h : ∀ p ∈ ds, p.2.canLay0 = true) : eqDK ds ds = true := by
  unfold eqDK
  simp only [beq_self_eq_true, Bool.true_and]
  rw [List.all_eq_true]
  intro p hp
  obtain ⟨k, d⟩ := p
  have e : ds.lookup k = some d := by
    clear h
    induction ds with
    | nil => cases hp
    | cons q r ih =>
      obtain ⟨j, e⟩ := q
      rw [List.lookup_cons]
      rw [List.map_cons, List.nodup_cons] at hn; rcases List.mem_cons.mp hp with h | h
      · injection h with h1 h2
        subst h1 h2
        simp
      · have ne : ¬ k = j := fun z => hn.1 (List.mem_map.mpr ⟨(k, d), h, z⟩)
        have : (k == j) = false := by simpa using ne
        rw [this]
        exact ih hn.2 h
  dsimp only
  rw [e]
  exact SeqAt.eqv_refl d (h _ hp)
theorem eqDK_ne {da db : List (Str × PyData)} {k : Str} {d : PyData} (h : (k, d) ∈ da) (hn : ∀ e, db.lookup k = some e → PyData.eqv d e = false) : eqDK da db = false := by
  unfold eqDK
  refine Bool.and_eq_false_iff.mpr (.inr (List.all_eq_false.mpr ⟨(k, d), h, ?_⟩))
  dsimp only
  cases e : db.lookup k with
  | none => simp
  | some e' => simp [hn e' e]
theorem eqDK_len {da db : List (Str × PyData)} (h : da.length ≠ db.length) : eqDK da db = false := by
  unfold eqDK
  have : (da.length == db.length) = false := by simpa using h
  rw [this]
  rfl
/-! ### ascending -/
theorem srtD_is {ds es : List (Str × PyData)} (h1 : srt (ds.map fun p => p.1) = es.map fun p => p.1) (h2 : ∀ p ∈ es, ds.lookup p.1 = some p.2) : srtD ds = es := by
  unfold srtD
  rw [h1, List.map_map]
  have : ∀ l : List (Str × PyData), (∀ p ∈ l, ds.lookup p.1 = some p.2) → l.map ((fun z => (z, (ds.lookup z).getD PyData.none)) ∘ fun p => p.1) = l := by
    intro l
    induction l with
    | nil => intro _; rfl
    | cons p r ih =>
      intro h
      rw [List.map_cons, ih fun q hq => h q (List.mem_cons_of_mem _ hq)]
      obtain ⟨a, b⟩ := p
      show (a, (ds.lookup a).getD .none) :: r = _
      have h' := h (a, b) List.mem_cons_self
      have h'' : ds.lookup a = some b := h'
      rw [h'']
      rfl
  exact this es h2
theorem lookup_nd {α : Type} : ∀ {ds : List (Str × α)} {k : Str} {d : α}, (ds.map fun p => p.1).Nodup → (k, d) ∈ ds → ds.lookup k = some d
  | [], _, _, _, h => nomatch h
  | (j, e) :: r, k, d, hn, h => by
    rw [List.lookup_cons]
    rw [List.map_cons, List.nodup_cons] at hn; rcases List.mem_cons.mp h with h | h
    · injection h with h1 h2
      subst h1 h2
      simp
    · have ne : ¬ k = j := fun z => hn.1 (List.mem_map.mpr ⟨(k, d), h, z⟩)
      have : (k == j) = false := by simpa using ne
      rw [this]
      exact lookup_nd hn.2 h
theorem srt_of_sorted {l l' : List Str} (hp : l.Perm l') (hs : sortedS l' = true) : srt l = l' := (srt_is hp.symm hs).symm
theorem ab_sorted : ∀ n, sortedS (ab.take n) = true
  | 0 => by decide +kernel
  | 1 => by decide +kernel
  | 2 => by decide +kernel
  | 3 => by decide +kernel
  | n + 4 => by
    rw [List.take_of_length_le (by show 4 ≤ n + 4; omega)]
    decide +kernel
/-! ### nets of the law -/
structure GRows (n : Nat) (r : Rows) : Prop where
  l1 : r.1.length ≤ 12
  l2 : 1 ≤ r.2.length
  l3 : r.2.length ≤ 12
  ok1 : ∀ d ∈ r.1, okd n d
  ok2 : ∀ d ∈ r.2, okd n d
structure GK (n : Nat) (ks : Knots) : Prop where
  pos : 1 ≤ n
  le : n ≤ 4
  perm : (kn ks).Perm (ab.take n)
  rows : ∀ p ∈ ks, GRows n p.2
  next : ∀ (j : Nat) (x : Str) (r : Rows) (y : Str), (ab.take n)[j]? = some x → (x, r) ∈ ks → (ab.take n)[j + 1]? = some y → [y] ∈ r.2
structure GI (n : Nat) (is : Ins) : Prop where
  nd : (inn is).Nodup
  sub : ∀ x ∈ inn is, x ∈ (["i", "j", "k"] : List Str)
  a : ∃ x : Str, (x, ("a" : Str)) ∈ is
  leads : ∀ p ∈ is, p.2 ∈ ab.take n
structure GO (os : List Str) : Prop where
  nd : os.Nodup
  sub : ∀ x ∈ os, x ∈ (["o", "p", "q"] : List Str)
  o : ("o" : Str) ∈ os
  p : ("p" : Str) ∈ os
theorem nd_ab {n : Nat} {ks : Knots} (g : GK n ks) : (kn ks).Nodup := g.perm.nodup_iff.mpr (ab_nodup n)
theorem kn_ab {n : Nat} {ks : Knots} (g : GK n ks) {x : Str} (h : x ∈ kn ks) : x ∈ ab := List.mem_of_mem_take (g.perm.mem_iff.mp h)
theorem len_ab {n : Nat} {ks : Knots} (g : GK n ks) : ks.length = n := by
  have h := g.perm.length_eq
  unfold kn at h
  rw [List.length_map, List.length_take] at h
  have h2 : ab.length = 4 := rfl
  have := g.le
  omega
theorem all10 : ∀ z ∈ ab ++ (["o", "p", "q"] : List Str) ++ (["i", "j", "k"] : List Str), okName z = true ∧ z.length ≤ 1000 ∧ PyData.strOk z = true := by decide +kernel
theorem disj1 : ∀ z ∈ ab, ∀ y ∈ (["o", "p", "q"] : List Str), z ≠ y := by decide +kernel
theorem disj2 : ∀ z ∈ ab ++ (["o", "p", "q"] : List Str), ∀ y ∈ (["i", "j", "k"] : List Str), z ≠ y := by decide +kernel
theorem met_ok {n : Nat} {ks : Knots} {is : Ins} (g : GK n ks) (i : GI n is) : Met ks is := by
  intro zs c
  have key : ∀ (j : Nat) (x : Str), (ab.take n)[j]? = some x → x ∈ zs := by
    intro j
    induction j with
    | zero =>
      intro x hx
      obtain ⟨z, hz⟩ := i.a
      have h := c.start _ hz
      have e : (ab.take n)[0]? = some ("a" : Str) := by
        rw [List.getElem?_take_of_lt g.pos]
        rfl
      rw [e] at hx
      cases hx
      exact h
    | succ j ih =>
      intro y hy
      have hj : j < (ab.take n).length := Nat.lt_of_succ_lt (List.getElem?_eq_some_iff.mp hy).1
      have hx := ih _ (List.getElem?_eq_getElem hj)
      have hm : (ab.take n)[j] ∈ kn ks := g.perm.mem_iff.mpr (List.getElem_mem hj)
      obtain ⟨⟨x', r⟩, h1, h2⟩ := List.mem_map.mp hm
      have h2' : x' = (ab.take n)[j] := h2
      have h3 := g.next j x' r y (by rw [h2']; exact List.getElem?_eq_getElem hj) h1 hy
      refine c.next x' r h1 (by rw [h2']; exact hx) y ?_
      unfold succ
      rw [List.mem_filter]
      exact ⟨List.mem_flatten.mpr ⟨_, h3, List.mem_cons_self⟩, decide_eq_true (g.perm.mem_iff.mpr (List.mem_of_getElem? hy))⟩
  intro x hx
  obtain ⟨j, hj, e⟩ := List.mem_iff_getElem.mp (g.perm.mem_iff.mp hx)
  exact key j x (by rw [List.getElem?_eq_getElem hj, e])
theorem tell10 : ∀ z ∈ ab ++ (["o", "p", "q"] : List Str) ++ (["i", "j", "k"] : List Str), (PySem.reprText z).length ≤ 10 := by decide +kernel
theorem tell_of {z : Str} {n : Nat} (h : (PySem.reprText z).length ≤ n) (k : n ≤ 1000) : Bn.TellV (.str z) := Nat.le_trans h (Nat.le_trans k (by decide +kernel))
theorem ok_net {n : Nat} {ks : Knots} {is : Ins} {os : List Str} (g : GK n ks) (i : GI n is) (o : GO os) : OkNet ks is os := by
  have hl := len_ab g
  have h1 := g.pos
  have h4 := g.le
  have il : (inn is).length = is.length := List.length_map _
  have i3 : is.length ≤ 3 := by rw [← il]; exact nodup_len i.nd i.sub
  have o3 : os.length ≤ 3 := nodup_len o.nd o.sub
  have i1 : 1 ≤ is.length := by
    obtain ⟨x, hx⟩ := i.a
    exact List.length_pos_of_mem hx
  have mem : ∀ z ∈ kn ks ++ os ++ inn is, z ∈ ab ++ (["o", "p", "q"] : List Str) ++ (["i", "j", "k"] : List Str) := fun z hz => by
    rcases List.mem_append.mp hz with h | h
    · refine (List.mem_append.mp h).elim (fun h => ?_) (fun h => ?_)
      · exact List.mem_append_left _ (List.mem_append_left _ (kn_ab g h))
      · exact List.mem_append_left _ (List.mem_append_right _ (o.sub z h))
    · exact List.mem_append_right _ (i.sub z h)
  have tg : ∀ x ∈ tgs n, decide (x ∈ kn ks ++ os) = true := fun x hx => decide_eq_true (by
    rcases List.mem_append.mp hx with h | h
    · exact List.mem_append_left _ (g.perm.mem_iff.mpr h)
    · refine List.mem_append_right _ ?_
      rcases List.mem_cons.mp h with h | h
      · rw [h]; exact o.o
      · rw [List.mem_singleton.mp h]; exact o.p)
  refine ⟨fun z hz => ⟨(all10 z (mem z hz)).1, (all10 z (mem z hz)).2.1, tell_of (tell10 z (mem z hz)) (by decide)⟩, ?_, fun p hp => ?_, fun p hp => g.perm.mem_iff.mpr (i.leads p hp), by omega, by omega, i1, by omega, by omega⟩
  · rw [List.nodup_append, List.nodup_append]
    exact ⟨⟨nd_ab g, o.nd, fun x hx y hy => disj1 x (kn_ab g hx) y (o.sub y hy)⟩, i.nd, fun x hx y hy => disj2 x ((List.mem_append.mp hx).elim (fun h => List.mem_append_left _ (kn_ab g h)) fun h => List.mem_append_right _ (o.sub x h)) y (i.sub y hy)⟩
  · have r := g.rows p hp
    have key : ∀ d, okd n d → d.length ≤ 4 ∧ ∀ x ∈ d, decide (x ∈ kn ks ++ os) = true := fun d hd => ⟨by have := hd.1; omega, fun x hx => tg x (hd.2 x hx)⟩
    exact ⟨⟨r.l1, fun d hd => key d (r.ok1 d hd)⟩, ⟨r.l3, fun d hd => key d (r.ok2 d hd)⟩, r.l2⟩
theorem flat_le {n : Nat} {r : Row} : (∀ d ∈ r, okd n d) → r.flatten.length ≤ 2 * r.length := by
  induction r with
  | nil => intro _; exact Nat.le_refl _
  | cons d r ih =>
    intro h
    have h1 := (h d List.mem_cons_self).1
    have h2 := ih fun e he => h e (List.mem_cons_of_mem _ he)
    rw [List.flatten_cons, List.length_append, List.length_cons]
    omega
theorem net_in {H : Hp} {a b : Addr} {kv iv : List (Key × V)} {n : Nat} {ks : Knots} {is : Ins} (g : GK n ks) (i : GI n is) (ne : a ≠ b) (ha : H a = some (.dK kv)) (hkv : Dk H kv (kd ks)) (hb : H b = some (.dK iv)) (hiv : Dk H iv (id_ is)) : NetIn H a b kv iv ks is := by
  have hl := len_ab g
  have h4 := g.le
  have il : (inn is).length = is.length := List.length_map _
  have i3 : is.length ≤ 3 := by rw [← il]; exact nodup_len i.nd i.sub
  refine ⟨ne, ha, hkv, nd_ab g, by omega, fun p hp => ?_, hb, hiv, i.nd, by omega, fun p hp => g.perm.mem_iff.mpr (i.leads p hp)⟩
  have r := g.rows p hp
  have := flat_le r.ok2
  have := r.l3
  omega
end Bc

/-! what the law's expressions give -/
namespace Bc
open PySem L2 PyProof.Rows StX
def dItem (p : Str × PyData) : PyData := .tuple [.str p.1, p.2]
theorem dts_items {H : Hp} : ∀ {ts : List Addr} {kvs : List (Key × V)} {ds : List (Str × PyData)}, Paired (fun t kv => H t = some (.tup [kV kv.1, kv.2])) ts kvs → Dk H kvs ds → Dts H (ts.map V.ref) (ds.map dItem)
  | _, _, _, .nil, .nil => .nil
  | _, _, _, .cons h r, .cons d k => .cons (.tup h (.cons (.str _) (.cons d .nil))) (dts_items r k)
def kx (H : Hp) : V → Str
  | .ref t => match H t with
    | some (.tup (.str z :: _)) => z
    | _ => ""
  | _ => ""
theorem kx_at {H : Hp} {t : Addr} {z : Str} {u : V} (h : H t = some (.tup [.str z, u])) : kx H (.ref t) = z := by
  show (match H t with | some (.tup (.str z :: _)) => z | _ => "") = z
  rw [h]
theorem items_kx {H : Hp} : ∀ {ts : List Addr} {kvs : List (Key × V)} {ds : List (Str × PyData)}, Paired (fun t kv => H t = some (.tup [kV kv.1, kv.2])) ts kvs → Dk H kvs ds → (ts.map V.ref).map (kx H) = ds.map fun p => p.1
  | _, _, _, .nil, .nil => rfl
  | _, _, _, .cons h r, .cons d q => by
    rw [List.map_cons, List.map_cons, List.map_cons, items_kx r q]
    congr 1
    exact kx_at h
theorem items_in {H : Hp} : ∀ {ts : List Addr} {kvs : List (Key × V)} {ds : List (Str × PyData)}, Paired (fun t kv => H t = some (.tup [kV kv.1, kv.2])) ts kvs → Dk H kvs ds → ∀ x ∈ ts.map V.ref, ∃ t u z d, x = .ref t ∧ H t = some (.tup [.str z, u]) ∧ (z, d) ∈ ds ∧ Dt H u d
  | _, _, _, .nil, .nil, _, h => nomatch h
  | _, _, _, .cons h r, .cons d q, x, hx => by
    rcases List.mem_cons.mp hx with e | m
    · exact ⟨_, _, _, _, e, h, List.mem_cons_self, d⟩
    · obtain ⟨t, u, z, d', a, b, c, e⟩ := items_in r q x m
      exact ⟨t, u, z, d', a, b, List.mem_cons_of_mem _ c, e⟩
theorem dts_sorted {H : Hp} {ts : List Addr} {kvs : List (Key × V)} {ds : List (Str × PyData)} (hp : Paired (fun t kv => H t = some (.tup [kV kv.1, kv.2])) ts kvs) (hd : Dk H kvs ds) (hn : (ds.map fun p => p.1).Nodup) {ys : List V} (h1 : ys.Perm (ts.map V.ref))
    (h2 : ys.Pairwise fun x y => leS (kx H x) (kx H y) = true) : Dts H ys ((srtD ds).map dItem) := by
  have hk : ys.map (kx H) = srt (ds.map fun p => p.1) := by
    refine sorted_one (le := leS) (fun _ _ => leS_anti) ?_ (List.pairwise_map.mpr h2) (srt_pw _)
    refine (h1.map (kx H)).trans ?_
    rw [items_kx hp hd]
    exact (srt_perm _).symm
  have e : (srtD ds).map dItem = ys.map fun y => dItem (kx H y, (ds.lookup (kx H y)).getD .none) := by
    unfold srtD
    rw [← hk, List.map_map, List.map_map]
    rfl
  rw [e]
  have key : ∀ l : List V, (∀ y ∈ l, y ∈ ts.map V.ref) → Dts H l (l.map fun y => dItem (kx H y, (ds.lookup (kx H y)).getD .none)) := by
    intro l
    induction l with
    | nil => intro _; exact .nil
    | cons y r ih =>
      intro hy
      refine .cons ?_ (ih fun z hz => hy z (List.mem_cons_of_mem _ hz))
      obtain ⟨t, u, z, d, rfl, ht, hm, hu⟩ := items_in hp hd y (hy y List.mem_cons_self)
      show Dt H (V.ref t) (dItem (kx H (.ref t), (List.lookup (kx H (.ref t)) ds).getD .none))
      rw [kx_at ht, lookup_nd hn hm]
      exact .tup ht (.cons (.str z) (.cons hu .nil))
  exact key ys fun y hy => h1.mem_iff.mp hy
section
variable {K : PySem.W.Frag} {σ : L2.St} {H : Hp} {ta tb te : TE} {D : Ends} {u : TS} {C : Addr}
theorem evd_items {a : Addr} {kvs : List (Key × V)} {ds : List (Str × PyData)} (ha : Ev ta σ H (.ref a)) (h : H a = some (.dK kvs)) (hd : Dk H kvs ds) : EvD (LiI.tListItems ta) σ H (.list (ds.map dItem)) := fun Q q =>
  el_items ha h Q fun p H' ts hp e hx hw => q _ _ e (.lst hx (dts_items hw (hd.go e)))
theorem evd_sortItems {a : Addr} {kvs : List (Key × V)} {ds : List (Str × PyData)} (ha : Ev ta σ H (.ref a)) (h : H a = some (.dK kvs)) (hd : Dk H kvs ds) (hn : (ds.map fun p => p.1).Nodup) : EvD (tCB (rSortSP K) (tCons (LiI.tListItems ta) tNil)) σ H (.list ((srtD ds).map dItem)) := fun Q q =>
  el_items ha h _ fun p H' ts hp e hx hw => ⟨p, ts.map V.ref, kx H', rfl, SqL.of hx, fun x hm => by
    obtain ⟨t, u, z, d, rfl, ht, _, _⟩ := items_in hw (hd.go e) x hm
    exact ⟨t, u, rfl, by rw [kx_at ht]; exact ht⟩, by rw [items_kx hw (hd.go e)]; exact hn, fun ys p' h1 h2 h3 => q _ _ (e.trans (same_upd h3)) (.lst upd_same ((dts_sorted hw (hd.go e) hn h1 h2).go (same_upd h3)))⟩
/-- x != y, both data -/
theorem ev_neDD {d e : PyData} (ha : EvD ta σ H d) (hb : ∀ H', Same H H' → EvD tb σ H' e) (s1 : SeqAt.shaped d = true) (s2 : SeqAt.shaped e = true) : Ev (tOp (rNeD K) ta tb) σ H (.bl (!PyData.eqv d e)) := fun Q q =>
  ha _ fun x H1 e1 hx => hb H1 e1 _ fun y H2 e2 hy => ⟨d, e, Dt.dp _ _ (hx.go e2), Dt.dp _ _ hy, s1, s2, q H2 (e1.trans e2)⟩
theorem evd_ev {v : V} {d : PyData} (h : Ev te σ H v) (k : ∀ H', Same H H' → Dt H' v d) : EvD te σ H d := fun Q q => h _ fun H' e => q v H' e (k H' e)
theorem NetNew.back {H0 H1 H' : Hp} {x : Addr} {ks is : List (Str × PyData)} {os : List Str} (n : NetNew H1 H' C x ks is os) (e : Same H0 H1) : NetNew H0 H' C x ks is os := by
  obtain ⟨dx, ka, ia, oa, kv, iv, h1, h2, h3, h4, h5, h6, h7, h8⟩ := n.ex
  exact ⟨dx, ka, ia, oa, kv, iv, h1, h2, h3, h4, h5, h6, e.free h7, e.free h8⟩
/-- Net(..) -/
theorem er_net {E : XK} {B : Addr} {t : TA} {n : Nat} {ks : Knots} {is : Ins} {os : List Str} (g : GK n ks) (i : GI n is) (o : GO os)
    (h : ∀ Q : List V → Hp → Prop, (∀ a b c kv iv H', Same H H' → a ≠ b → H' a = some (.dK kv) → Dk H' kv (kd ks) → H' b = some (.dK iv) → Dk H' iv (id_ is) → (H' c = some (.lst (os.map V.str)) ∨ H' c = some (.tup (os.map V.str))) → Q [.ref a, .ref b, .ref c] H') → t σ H Q)
    (Q : VK) (q : ∀ x H', H x = none → Same H H' → NetNew H H' C x (srtD (kd ks)) (srtD (id_ is)) (srt os) → Q (.ref x) H') : tMake C (spInit C B) [] E t σ H Q :=
  h _ fun a b c kv iv H1 e1 ne ha hkv hb hiv hc x dx hx hdx ndx => ⟨H1, x, dx, a, .ref b, .ref c, kv, rfl, (same_upd (o := HO.own x) hdx).trans (same_upd (by rw [upd_ne (Ne.symm ndx)]; exact hx)), hx, upd_same, ha, .inr (end_ok (net_in g i ne ha hkv hb hiv) hc (ok_net g i o) (met_ok g i) fun H' e' na => ⟨rfl, q x H' (e1.free hx) (e1.trans e') (na.back e1)⟩)⟩
/-- the drawn net's own way -/
structure NetD (H : Hp) (C x : Addr) (ks : Knots) (is : Ins) (os : List Str) : Prop where
  at_ : NetAt H C x (kd ks) (id_ is) os
theorem NetAt.ins {x : Addr} {ks is : List (Str × PyData)} {os : List Str} (n : NetAt H C x ks is os) : ∃ dx fs, H x = some (.ins C dx fs) := by
  obtain ⟨dx, ka, ia, oa, kv, iv, h1, _⟩ := n.ex
  exact ⟨dx, _, h1⟩
theorem er_eqN {E : XK} {k1 i1 k2 i2 : List (Str × PyData)} {o1 o2 : List Str} {y : Addr} (ha : ∀ Q : VK, (∀ x H', Same H H' → NetAt H' C x k1 i1 o1 → Q (.ref x) H') → ta σ H Q) (hb : ∀ H', Same H H' → Ev tb σ H' (.ref y)) (n2 : NetAt H C y k2 i2 o2) (s1 : Shp k1 i1 o1) (s2 : Shp k2 i2 o2) :
    Ev (tOp (rEqO K C (spEq C) E) ta tb) σ H (.bl (eqNet k1 i1 o1 k2 i2 o2)) := fun Q q => ha _ fun x H1 e1 n1 => hb H1 e1 _ fun H2 e2 => by
  have n1' := n1.go e2
  have n2' := n2.go (e1.trans e2)
  obtain ⟨dx, fs, hx⟩ := n1'.ins
  obtain ⟨dy, gs, hy⟩ := n2'.ins
  exact ⟨x, dx, fs, rfl, hx, .ins hy, .inl ⟨x, y, k1, i1, k2, i2, o1, o2, rfl, n1', n2', s1, s2, fun H' e' => ⟨_, rfl, q H' (e1.trans (e2.trans e'))⟩⟩⟩
theorem ev_neN {E : XK} {k1 i1 k2 i2 : List (Str × PyData)} {o1 o2 : List Str} {x y : Addr} (ha : Ev ta σ H (.ref x)) (hb : ∀ H', Same H H' → Ev tb σ H' (.ref y)) (n1 : NetAt H C x k1 i1 o1) (n2 : NetAt H C y k2 i2 o2) (s1 : Shp k1 i1 o1) (s2 : Shp k2 i2 o2) :
    Ev (tOp (rNeO C (spEq C) E) ta tb) σ H (.bl (!eqNet k1 i1 o1 k2 i2 o2)) := fun Q q => ha _ fun H1 e1 => hb H1 e1 _ fun H2 e2 => by
  have n1' := n1.go (e1.trans e2)
  have n2' := n2.go (e1.trans e2)
  obtain ⟨dx, fs, hx⟩ := n1'.ins
  obtain ⟨dy, gs, hy⟩ := n2'.ins
  exact ⟨x, y, dx, dy, fs, gs, rfl, rfl, hx, hy, .inl ⟨x, y, k1, i1, k2, i2, o1, o2, rfl, n1', n2', s1, s2, fun H' e' => ⟨_, rfl, q H' (e1.trans (e2.trans e'))⟩⟩⟩
theorem ev_eqInt {E : XK} {k1 i1 : List (Str × PyData)} {o1 : List Str} {x : Addr} {j : Int} (ha : Ev ta σ H (.ref x)) (n1 : NetAt H C x k1 i1 o1) (nf : PySem.W.notFirst K C (.type "int") = true) : Ev (tOp (rEqO K C (spEq C) E) ta (tC (.int j))) σ H (.bl false) := fun Q q => ha _ fun H1 e1 => by
  have n1' := n1.go e1
  obtain ⟨dx, fs, hx⟩ := n1'.ins
  exact ⟨x, dx, fs, rfl, hx, .int j nf, .inr ⟨x, .int j, rfl, .inl ⟨j, rfl⟩, fun H' e' => ⟨_, rfl, q H' (e1.trans e')⟩⟩⟩
theorem ev_eqDict {E : XK} {k1 i1 : List (Str × PyData)} {o1 : List Str} {x a : Addr} {kv : List (Key × V)} (ha : Ev ta σ H (.ref x)) (hb : ∀ H', Same H H' → Ev tb σ H' (.ref a)) (h : H a = some (.dK kv)) (n1 : NetAt H C x k1 i1 o1) (nf : PySem.W.notFirst K C (.type "dict") = true) :
    Ev (tOp (rEqO K C (spEq C) E) ta tb) σ H (.bl false) := fun Q q => ha _ fun H1 e1 => hb H1 e1 _ fun H2 e2 => by
  have n1' := n1.go (e1.trans e2)
  obtain ⟨dx, fs, hx⟩ := n1'.ins
  have h' := (e1.trans e2) _ _ h
  exact ⟨x, dx, fs, rfl, hx, .dict h' nf, .inr ⟨x, .ref a, rfl, .inr ⟨a, kv, rfl, h'⟩, fun H' e' => ⟨_, rfl, q H' (e1.trans (e2.trans e'))⟩⟩⟩
theorem ev_lenN {E : XK} {k1 i1 : List (Str × PyData)} {o1 : List Str} {x : Addr} (ha : Ev ta σ H (.ref x)) (n1 : NetAt H C x k1 i1 o1) (hl : k1.length ≤ 1000) : Ev (tCB (rLenO C (spLen C) E) (tCons ta tNil)) σ H (.int (k1.length : Nat)) := fun Q q => ha _ fun H1 e1 => by
  have n1' := n1.go e1
  obtain ⟨dx, fs, hx⟩ := n1'.ins
  exact ⟨x, dx, fs, rfl, hx, x, k1, i1, o1, rfl, n1', fun H' e' => ⟨_, rfl, by omega, q H' (e1.trans e')⟩⟩
theorem ev_inN {E : XK} {k1 i1 : List (Str × PyData)} {o1 : List Str} {x : Addr} {z : Str} (ha : Ev ta σ H (.str z)) (hb : ∀ H', Same H H' → Ev tb σ H' (.ref x)) (n1 : NetAt H C x k1 i1 o1) : Ev (tOp (rInO C (spHas C) E false) ta tb) σ H (.bl ((k1.lookup z).isSome || decide (z ∈ o1))) := fun Q q =>
  ha _ fun H1 e1 => hb H1 e1 _ fun H2 e2 => by
  have n1' := n1.go (e1.trans e2)
  obtain ⟨dx, fs, hx⟩ := n1'.ins
  exact ⟨x, dx, fs, rfl, hx, x, .inr z, k1, i1, o1, rfl, n1', fun H' e' => ⟨_, rfl, q H' (e1.trans (e2.trans e'))⟩⟩
theorem ev_inNi {E : XK} {k1 i1 : List (Str × PyData)} {o1 : List Str} {x : Addr} {i : Int} (ha : Ev ta σ H (.int i)) (hb : ∀ H', Same H H' → Ev tb σ H' (.ref x)) (n1 : NetAt H C x k1 i1 o1) : Ev (tOp (rInO C (spHas C) E false) ta tb) σ H (.bl false) := fun Q q =>
  ha _ fun H1 e1 => hb H1 e1 _ fun H2 e2 => by
  have n1' := n1.go (e1.trans e2)
  obtain ⟨dx, fs, hx⟩ := n1'.ins
  exact ⟨x, dx, fs, rfl, hx, x, .inl i, k1, i1, o1, rfl, n1', fun H' e' => ⟨_, rfl, q H' (e1.trans (e2.trans e'))⟩⟩
theorem ek_start {E : XK} {k1 i1 : List (Str × PyData)} {o1 : List Str} {x : Addr} (ha : Ev ta σ H (.ref x)) (n1 : NetAt H C x k1 i1 o1) (hn : (k1.map fun p => p.1).Nodup) (hl : k1.length ≤ 1000) : EvK (tMeth C "start" (spStart C) [] E ta tNil) σ H (zeros (k1.map fun p => p.1)) := fun Q q => ha _ fun H1 e1 => by
  have n1' := n1.go e1
  obtain ⟨dx, ka, ia, oa, kv, iv, h1, _⟩ := n1'.ex
  exact ⟨x, dx, _, rfl, h1, no_f (by decide +kernel) (by decide +kernel) (by decide +kernel), x, k1, i1, o1, rfl, n1', hn, hl, fun p H' hp e' hx => q p H' (e1.free hp) (e1.trans e') hx⟩
end
end Bc

namespace Bc
open PySem L2 PyProof.Rows StX
/-! ### drawn nets, in order -/
theorem srtD_kd {n : Nat} {ks ks' : Knots} (hp : (kn ks).Perm (ab.take n)) (hk : kn ks' = ab.take n) (hm : ∀ p ∈ ks', p ∈ ks) : srtD (kd ks) = kd ks' := by
  have hn : (kn ks).Nodup := hp.nodup_iff.mpr (ab_nodup n)
  refine srtD_is ?_ fun p h => ?_
  · have e1 : (kd ks).map (fun p => p.1) = kn ks := kd_keys ks
    have e2 : (kd ks').map (fun p => p.1) = kn ks' := kd_keys ks'
    rw [e1, e2, hk]
    exact srt_of_sorted hp (ab_sorted n)
  · obtain ⟨⟨x, r⟩, h1, rfl⟩ := List.mem_map.mp h
    exact kd_get hn (hm _ h1)
theorem srtD_id {is is' : Ins} (hp : (inn is).Perm (inn is')) (hn : (inn is).Nodup) (hs : sortedS (inn is') = true) (hm : ∀ p ∈ is', p ∈ is) : srtD (id_ is) = id_ is' := by
  refine srtD_is ?_ fun p h => ?_
  · have e1 : (id_ is).map (fun p => p.1) = inn is := id_keys is
    have e2 : (id_ is').map (fun p => p.1) = inn is' := id_keys is'
    rw [e1, e2]
    exact srt_of_sorted hp hs
  · obtain ⟨⟨x, r⟩, h1, rfl⟩ := List.mem_map.mp h
    exact id_get hn (hm _ h1)
theorem ok_mem {x : Str} (h : x ∈ ab ++ (["o", "p", "q"] : List Str) ++ (["i", "j", "k"] : List Str)) : PyData.strOk x = true := (all10 x h).2.2
theorem ok_tgs {n : Nat} {x : Str} (h : x ∈ tgs n) : PyData.strOk x = true := by
  refine ok_mem (List.mem_append_left _ ?_); rcases List.mem_append.mp h with h | h
  · exact List.mem_append_left _ (List.mem_of_mem_take h)
  · refine List.mem_append_right _ ?_
    rcases List.mem_cons.mp h with h | h
    · rw [h]; decide +kernel
    · rw [List.mem_singleton.mp h]; decide +kernel
theorem ok_abn {n : Nat} {x : Str} (h : x ∈ ab.take n) : PyData.strOk x = true := ok_mem (List.mem_append_left _ (List.mem_append_left _ (List.mem_of_mem_take h)))
theorem lay_g {n : Nat} {r : Rows} (g : GRows n r) : (dRows r).canLay0 = true := lay_rows (fun d hd x hx => ok_tgs ((g.ok1 d hd).2 x hx)) fun d hd x hx => ok_tgs ((g.ok2 d hd).2 x hx)
theorem lay_kd {n : Nat} {ks : Knots} (g : GK n ks) : ∀ p ∈ kd ks, p.2.canLay0 = true := fun p hp => by
  obtain ⟨⟨x, r⟩, h1, rfl⟩ := List.mem_map.mp hp
  exact lay_g (g.rows _ h1)
theorem lay_id {n : Nat} {is : Ins} (i : GI n is) : ∀ p ∈ id_ is, p.2.canLay0 = true := fun p hp => by
  obtain ⟨⟨x, z⟩, h1, rfl⟩ := List.mem_map.mp hp
  exact ok_abn (i.leads _ h1)
theorem lay_os {os : List Str} (o : GO os) : (dOs os).canLay0 = true := lay_strs fun x hx => ok_mem (List.mem_append_left _ (List.mem_append_right _ (o.sub x hx)))
theorem shp_ok {n : Nat} {ks : Knots} {is : Ins} {os : List Str} (g : GK n ks) (i : GI n is) (o : GO os) : Shp (kd ks) (id_ is) os :=
  ⟨fun p hp => by
    obtain ⟨⟨x, r⟩, h1, rfl⟩ := List.mem_map.mp hp
    exact shaped_of (n := 3) (lay_g (g.rows _ h1)) (depth_rows r), fun p hp => by
    obtain ⟨⟨x, z⟩, h1, rfl⟩ := List.mem_map.mp hp
    exact shaped_of (n := 0) (ok_abn (i.leads _ h1)) (Nat.le_refl _), shaped_of (n := 1) (lay_os o) (Nat.succ_le_succ (depth_strs os))⟩
theorem eqNet_refl {n : Nat} {ks : Knots} {is : Ins} {os : List Str} (g : GK n ks) (i : GI n is) (o : GO os) : eqNet (kd ks) (id_ is) os (kd ks) (id_ is) os = true := by
  unfold eqNet
  have e1 : (kd ks).map (fun p => p.1) = kn ks := kd_keys ks
  have e2 : (id_ is).map (fun p => p.1) = inn is := id_keys is
  rw [eqDK_refl (by rw [e1]; exact nd_ab g) (lay_kd g), eqDK_refl (by rw [e2]; exact i.nd) (lay_id i), SeqAt.eqv_refl _ (lay_os o)]
  rfl
theorem eqNet_k {k1 i1 k2 i2 : List (Str × PyData)} {o1 o2 : List Str} (h : eqDK k1 k2 = false) : eqNet k1 i1 o1 k2 i2 o2 = false := by
  unfold eqNet
  rw [h]
  rfl
theorem eqNet_i {k1 i1 k2 i2 : List (Str × PyData)} {o1 o2 : List Str} (h : eqDK i1 i2 = false) : eqNet k1 i1 o1 k2 i2 o2 = false := by
  unfold eqNet
  rw [h, Bool.false_and, Bool.and_false]
  rfl
theorem eqNet_o {k1 i1 k2 i2 : List (Str × PyData)} {o1 o2 : List Str} (h : PyData.eqv (dOs o1) (dOs o2) = false) : eqNet k1 i1 o1 k2 i2 o2 = false := by
  unfold eqNet
  rw [h, Bool.and_false, Bool.and_false]
  rfl
/-- the inlets i and j -/
def is0 (y : Str) : Ins := [("i", "a"), ("j", y)]
theorem dk_is0 {H : Hp} {y : Str} : Dk H (insD y) (id_ (is0 y)) := .cons (.str _) (.cons (.str _) .nil)
theorem gi_of {n : Nat} {is : Ins} (h1 : (inn is).Nodup) (h2 : ∀ x ∈ inn is, x ∈ (["i", "j", "k"] : List Str)) (h3 : ∃ x : Str, (x, ("a" : Str)) ∈ is) (h4 : ∀ p ∈ is, p.2 ∈ ab.take n) : GI n is := ⟨h1, h2, h3, h4⟩
theorem a_in {n : Nat} (h : 1 ≤ n) : ("a" : Str) ∈ ab.take n := by
  match n, h with
  | n + 1, _ => exact List.mem_cons_self
theorem gi_is0 {n : Nat} {y : Str} (h : 1 ≤ n) (hy : y ∈ ab.take n) : GI n (is0 y) := ⟨by show (["i", "j"] : List Str).Nodup; decide +kernel, by show ∀ x ∈ (["i", "j"] : List Str), _; decide +kernel, ⟨"i", List.mem_cons_self⟩, fun p hp => by
  rcases List.mem_cons.mp hp with h' | h'
  · rw [h']; exact a_in h
  · rw [List.mem_singleton.mp h']; exact hy⟩
theorem go_op : GO ["o", "p"] := ⟨by decide +kernel, by decide +kernel, by decide +kernel, by decide +kernel⟩
theorem go_po : GO ["p", "o"] := ⟨by decide +kernel, by decide +kernel, by decide +kernel, by decide +kernel⟩
theorem go_opq : GO ["o", "p", "q"] := ⟨by decide +kernel, by decide +kernel, by decide +kernel, by decide +kernel⟩
theorem srt_po : srt (["p", "o"] : List Str) = (["o", "p"] : List Str) := srt_of_sorted (List.Perm.swap _ _ _) (by decide +kernel)
theorem srt_op : srt (["o", "p"] : List Str) = (["o", "p"] : List Str) := srt_of_sorted (List.Perm.refl _) (by decide +kernel)
theorem srt_opq : srt (["o", "p", "q"] : List Str) = (["o", "p", "q"] : List Str) := srt_of_sorted (List.Perm.refl _) (by decide +kernel)
theorem srtD_is0 {y : Str} : srtD (id_ (is0 y)) = id_ (is0 y) := srtD_id (List.Perm.refl _) (by show (["i", "j"] : List Str).Nodup; decide +kernel) (by show sortedS ["i", "j"] = true; decide +kernel) fun _ h => h
theorem srtD_is0r {y : Str} : srtD (id_ (is0 y).reverse) = id_ (is0 y) := srtD_id (List.Perm.swap _ _ _) (by show (["j", "i"] : List Str).Nodup; decide +kernel) (by show sortedS ["i", "j"] = true; decide +kernel) fun p h => by
  show p ∈ ([("j", y), ("i", "a")] : List (Str × Str))
  rcases List.mem_cons.mp h with h | h
  · rw [h]; exact List.mem_cons_of_mem _ List.mem_cons_self
  · rw [List.mem_singleton.mp h]; exact List.mem_cons_self
theorem gi_is0r {n : Nat} {y : Str} (h : 1 ≤ n) (hy : y ∈ ab.take n) : GI n (is0 y).reverse := by
  have g := gi_is0 h hy
  exact ⟨by show (["j", "i"] : List Str).Nodup; decide +kernel, by show ∀ x ∈ (["j", "i"] : List Str), _; decide +kernel, ⟨"i", List.mem_reverse.mpr List.mem_cons_self⟩, fun p hp => g.leads p (List.mem_reverse.mp hp)⟩
theorem gk_of {r : Nat} {ks : Knots} (hr : r < 4) (d : DKn (1 + r) (1 + r) ks) : GK (1 + r) ks := by
  have hk : kn ks = ab.take (1 + r) := by
    rw [d.names, List.take_take]
    congr 1
    omega
  refine ⟨by omega, by omega, by rw [hk], fun p hp => ?_, fun j x rr y hx hm hy => ?_⟩
  · have g := d.rows p hp
    exact ⟨by have := g.l1; omega, g.l2, by have := g.l3; omega, g.ok1, g.ok2⟩
  · obtain ⟨i, hi, e⟩ := List.mem_iff_getElem.mp hm
    have e1 : (kn ks)[i]? = some x := by
      unfold kn
      rw [List.getElem?_map, List.getElem?_eq_getElem hi, e]
      rfl
    rw [hk] at e1
    have hij : i = j := nd_ix (ab_nodup (1 + r)) e1 hx
    subst hij
    exact d.next i x rr y (by rw [List.getElem?_eq_getElem hi, e]) hy
theorem gk_rev {n : Nat} {ks : Knots} (g : GK n ks) : GK n ks.reverse :=
  ⟨g.pos, g.le, by
    unfold kn
    rw [List.map_reverse]
    exact (List.reverse_perm _).trans g.perm, fun p hp => g.rows p (List.mem_reverse.mp hp), fun j x r y h1 h2 h3 => g.next j x r y h1 (List.mem_reverse.mp h2) h3⟩
theorem Dk.append {H : Hp} : ∀ {a b : List (Key × V)} {c d : List (Str × PyData)}, Dk H a c → Dk H b d → Dk H (a ++ b) (c ++ d)
  | _, _, _, _, .nil, h => h
  | _, _, _, _, .cons h r, k => .cons h (Dk.append r k)
theorem Dk.reverse {H : Hp} : ∀ {a : List (Key × V)} {c : List (Str × PyData)}, Dk H a c → Dk H a.reverse c.reverse
  | _, _, .nil => .nil
  | _, _, .cons h r => by
    rw [List.reverse_cons, List.reverse_cons]; exact (Dk.reverse r).append (.cons h .nil)
theorem id_any {H H' : Hp} : ∀ {is : Ins} {kv : List (Key × V)}, Dk H kv (id_ is) → Dk H' kv (id_ is)
  | [], _, .nil => .nil
  | _ :: _, _, .cons h k => .cons (by cases h; exact .str _) (id_any k)
/-! ### the rows of one knot another -/
def updK (ks : Knots) (x : Str) (r : Rows) : Knots := ks.map fun p => if p.1 = x then (p.1, r) else p
theorem kn_upd (ks : Knots) (x : Str) (r : Rows) : kn (updK ks x r) = kn ks := by
  unfold kn updK
  rw [List.map_map]
  refine List.map_congr_left fun p _ => ?_; show (if p.1 = x then (p.1, r) else p).1 = p.1
  split <;> rfl
theorem mem_upd {ks : Knots} {x : Str} {r : Rows} {p : Str × Rows} (h : p ∈ updK ks x r) : (p ∈ ks ∧ p.1 ≠ x) ∨ (p = (x, r) ∧ ∃ r0, (x, r0) ∈ ks) := by
  obtain ⟨q, hq, e⟩ := List.mem_map.mp h
  by_cases hx : q.1 = x
  · rw [if_pos hx] at e
    refine .inr ⟨by rw [← e, hx], q.2, ?_⟩
    rw [← hx]
    exact hq
  · rw [if_neg hx] at e
    subst e
    exact .inl ⟨hq, hx⟩
theorem gk_upd {n : Nat} {ks : Knots} {x : Str} {r0 r : Rows} (g : GK n ks) (h0 : (x, r0) ∈ ks) (h1 : GRows n r) (h2 : ∀ d ∈ r0.2, d ∈ r.2) : GK n (updK ks x r) :=
  ⟨g.pos, g.le, by rw [kn_upd]; exact g.perm, fun p hp => by
    rcases mem_upd hp with h | ⟨rfl, _⟩
    · exact g.rows p h.1
    · exact h1, fun j z rr y e1 e2 e3 => by
    rcases mem_upd e2 with h | ⟨h, _⟩
    · exact g.next j z rr y e1 h.1 e3
    · cases h
      exact h2 _ (g.next j x r0 y e1 h0 e3)⟩
theorem dk_upd {H : Hp} {x : Str} {v : V} {r : Rows} (hv : Dt H v (dRows r)) : ∀ {ks : Knots} {kv : List (Key × V)}, Dk H kv (kd ks) → (∃ r0, (x, r0) ∈ ks) → Dk H (putK kv (.inr x) v) (kd (updK ks x r)) := by
  have key : ∀ {ks : Knots} {kv : List (Key × V)}, Dk H kv (kd ks) → Dk H (kv.map fun q => if q.1 = .inr x then (q.1, v) else q) (kd (updK ks x r)) := by
    intro ks
    induction ks with
    | nil => intro kv h; cases h; exact .nil
    | cons p r' ih =>
      intro kv h
      obtain ⟨z, rr⟩ := p
      cases h with
      | cons h1 h2 =>
        rename_i v0 kvs0
        have e1 : kd (updK ((z, rr) :: r') x r) = (let q := (if z = x then (z, r) else (z, rr)); (q.1, dRows q.2)) :: kd (updK r' x r) := rfl
        have e2 : (((Sum.inr z : Key), v0) :: kvs0).map (fun q => if q.1 = (.inr x : Key) then (q.1, v) else q) = (if (Sum.inr z : Key) = .inr x then ((Sum.inr z : Key), v) else (.inr z, v0)) :: kvs0.map (fun q => if q.1 = (.inr x : Key) then (q.1, v) else q) := rfl
        rw [e1]
        show Dk H ((((Sum.inr z : Key), v0) :: kvs0).map _) _
        rw [e2]
        by_cases e : z = x
        · subst e
          rw [if_pos rfl, if_pos rfl]
          exact .cons hv (ih h2)
        · rw [if_neg (fun q => e (Sum.inr.inj q)), if_neg e]
          exact .cons h1 (ih h2)
  intro ks kv h ⟨r0, hm⟩
  have e : (kv.any fun q => decide (q.1 = .inr x)) = true := by
    rw [List.any_eq_true]
    have hk := h.keys
    have : (Sum.inr x : Key) ∈ kv.map (·.1) := by
      rw [hk]
      refine List.mem_map.mpr ⟨x, ?_, rfl⟩
      exact List.mem_map.mpr ⟨(x, dRows r0), List.mem_map.mpr ⟨(x, r0), hm, rfl⟩, rfl⟩
    obtain ⟨q, h1, h2⟩ := List.mem_map.mp this
    exact ⟨q, h1, decide_eq_true h2⟩
  unfold putK
  rw [if_pos e]
  exact key h
end Bc

namespace Bc
open PySem L2 PyProof.Rows StX
/-- a comprehension without tests over a walk: what R says of each item made -/
theorem lc_nameD {J : It} {n : Nat} {G : Hp → Prop} {Y : Nat → Hp → V → Hp → Prop} (w : Walk J n G Y) {te : TE} {j : Nat} {vs : List Nat} {σ : L2.St} {H1 : Hp} {D : Addr} {Qd : Hp → Prop} (R : Nat → V → Hp → Prop)
    (hm : ∀ i y H H', Same H H' → R i y H → R i y H') (hD : H1 D = none) (hn : n < 100000) (hG : ∀ H, Same H1 H → G H) (hw : ∀ x, wipe ((wipe σ vs).set j (some x)) vs = wipe σ vs)
    (hs : ∀ i x H H', i < n → Same H1 H → (∃ acc, H D = some (.lst acc)) → Y i H x H' → Same H H' ∧ ∀ Q : VK, (∀ y H4, Same H' H4 → R i y (hide H4 D) → Q y H4) → te ((wipe σ vs).set j (some x)) H' Q)
    (hd : ∀ ys H, ys.length = n → (∀ i y, ys[i]? = some y → R i y (hide H D)) → Same H1 H → H D = some (.lst ys) → Qd H) : ∃ W : Nat → Nat → Hp → Prop, (∃ m, W 0 m (upd H1 D (.lst []))) ∧ ∀ i m H, W i m H →
      (J.stop i H ∧ Qd H) ∨ (J.go i H ∧ ∃ Nx : Hp → Prop, (∀ H', Nx H' → ∃ m', m' < m ∧ W (i + 1) m' H') ∧ ∀ x H', J.yld i H x H' → gName j x (wipe σ vs) H' fun σ2 H2 => wipe σ2 vs = wipe σ vs ∧ tYes σ2 H2 fun b H3 => if b = true then te σ2 H3 fun y H4 => ∃ acc, H4 D = some (.lst acc) ∧ acc.length < sizeLine ∧ Nx (upd H4 D (.lst (acc ++ [y]))) else Nx H3) := by
  refine lc_it w (fun i H => Same H1 H ∧ ∃ acc, H D = some (.lst acc) ∧ acc.length = i ∧ ∀ k y, acc[k]? = some y → R k y (hide H D)) ⟨same_upd hD, [], upd_same, rfl, fun k y e => by simp at e⟩ (fun i H _ p => hG H p.1) (fun i x H H' hi p y => ?_) (fun H p => ?_)
  · obtain ⟨s1, acc, ha, hl, hr⟩ := p
    obtain ⟨s2, k⟩ := hs i x H H' hi s1 ⟨acc, ha⟩ y
    refine ⟨hw x, ?_⟩
    show te ((wipe σ vs).set j (some x)) H' _
    refine (k _ fun y H4 s3 r => ⟨acc, s3 _ _ (s2 _ _ ha), szl (by omega), Same.mut ((s1.trans s2).trans s3) hD, acc ++ [y], upd_same, by rw [List.length_append, List.length_singleton, hl], fun k z e => ?_⟩)
    have key : hide (upd H4 D (.lst (acc ++ [y]))) D = hide H4 D := by
      funext b
      unfold hide
      by_cases h : b = D
      · rw [if_pos h, if_pos h]
      · rw [if_neg h, if_neg h, upd_ne h]
    rw [key]
    by_cases h : k < acc.length
    · rw [List.getElem?_append_left h] at e
      exact hm k z _ _ (hide_mono (s2.trans s3)) (hr k z e)
    · rw [List.getElem?_append_right (by omega)] at e
      have h0 : k - acc.length = 0 := by
        rcases Nat.eq_zero_or_pos (k - acc.length) with q | q
        · exact q
        · have q2 : ([y] : List V).length ≤ k - acc.length := by
            show 1 ≤ _
            omega
          rw [List.getElem?_eq_none_iff.mpr q2] at e
          cases e
      rw [h0] at e
      have hk : k = i := by omega
      subst hk
      cases e
      exact r
  · obtain ⟨s1, acc, ha, hl, hr⟩ := p
    exact hd acc H hl hr s1 ha
theorem dts_of {H : Hp} : ∀ {ys : List V} {ds : List PyData}, ys.length = ds.length → (∀ (i : Nat) (y : V) (d : PyData), ys[i]? = some y → ds[i]? = some d → Dt H y d) → Dts H ys ds
  | [], [], _, _ => .nil
  | y :: ys, d :: ds, hl, h => .cons (h 0 y d rfl rfl) (dts_of (by simpa using hl) fun i y' d' h1 h2 => h (i + 1) y' d' (by simpa using h1) (by simpa using h2))
  | [], _ :: _, hl, _ => absurd hl (by simp)
  | _ :: _, [], hl, _ => absurd hl (by simp)
section
variable {K : PySem.W.Frag} {σ : L2.St} {H : Hp} {ta tb te : TE} {t : TA} {D : Ends} {u : TS} {C : Addr}
/-- a for over a new tuple; its turns make things alone -/
theorem q_forT {tb : TS} {j : Nat} {R : List V → Hp → Prop} (h : ∀ Q : VK, (∀ p H1 xs, R xs H1 → Same H H1 → H1 p = some (.tup xs) → Q (.ref p) H1) → te σ H Q) (Ok : L2.St → Prop) (hOk : Ok σ)
    (hs : ∀ H1 xs, R xs H1 → Same H H1 → ∀ x σ' H', x ∈ xs → Same H1 H' → Ok σ' → tb { D with nx := fun σ2 H2 => Ok σ2 ∧ Same H1 H2, ct := fun σ2 H2 => Ok σ2 ∧ Same H1 H2, bk := u D } (σ'.set j (some x)) H') (hd : ∀ σ' H', Ok σ' → Same H H' → u D σ' H') :
    tSeq (tFor (iTup K te) (gName j) tb) u D σ H := h _ fun p H1 xs r e1 hx => ⟨p, rfl, ⟨xs, SqT.of hx⟩, for_it (walk_tup (K := K) (a := p) (xs := xs)) (fun _ σ' H' => Ok σ' ∧ Same H1 H') ⟨hOk, Same.refl _⟩ (fun i σ' H' _ q => SqT.of (q.2 _ _ hx)) (fun i x σ' H2 H3 hi q y => by
      obtain ⟨rfl, hy⟩ := y
      exact hs H1 xs r e1 x σ' _ (List.mem_of_getElem? hy) q.2 q.1) fun σ' H' q => hd σ' H' q.1 (e1.trans q.2)⟩
theorem eu_tup {vs : List V} (h : EvA t σ H vs) (hl : vs.length ≤ 100000) : EvU (tTup t) σ H vs := fun Q q => h _ fun H1 e1 => ⟨sz hl, fun p hp => q p _ (e1.free hp) (e1.trans (same_upd hp)) upd_same⟩
def EvDA (t : TA) (σ : L2.St) (H : Hp) (ds : List PyData) : Prop := ∀ Q : List V → Hp → Prop, (∀ vs H', Same H H' → Dts H' vs ds → Q vs H') → t σ H Q
theorem eda_nil : EvDA tNil σ H [] := fun Q q => q [] H (Same.refl H) .nil
theorem eda_cons {d : PyData} {ds : List PyData} {tr : TA} (h : EvD te σ H d) (k : ∀ H', Same H H' → EvDA tr σ H' ds) : EvDA (tCons te tr) σ H (d :: ds) := fun Q q => h _ fun v H1 e1 hd => k H1 e1 _ fun vs H2 e2 hs => q (v :: vs) H2 (e1.trans e2) (.cons (hd.go e2) hs)
theorem er_tupD {ds : List PyData} (h : EvDA t σ H ds) (hl : ds.length ≤ 100000) (Q : VK) (q : ∀ p H1 xs, Dts H1 xs ds → Same H H1 → H1 p = some (.tup xs) → Q (.ref p) H1) : tTup t σ H Q := h _ fun vs H1 e1 hs => ⟨by rw [hs.length]; exact sz hl, fun p hp => q p _ vs (hs.go (same_upd hp)) (e1.trans (same_upd hp)) upd_same⟩
theorem evd_itemsK {kvs : List (Key × V)} {ds : List (Str × PyData)} (h : EvK te σ H kvs) (hd : ∀ H', Dk H' kvs ds) : EvD (LiI.tListItems te) σ H (.list (ds.map dItem)) := fun Q q => h _ fun a H1 ha e1 hx =>
  ⟨a, kvs, rfl, hx, fun H' p ts e2 hp _ _ hl hw => q _ _ (e1.trans e2) (.lst hl (dts_items hw (hd H')))⟩
def zd (zs : List Str) : List (Str × PyData) := zs.map fun z => (z, .int 0)
theorem dk_zeros {H : Hp} : ∀ zs : List Str, Dk H (zeros zs) (zd zs)
  | [] => .nil
  | z :: r => .cons (.int 0) (dk_zeros r)
theorem zd_keys (zs : List Str) : (zd zs).map (fun p => p.1) = zs := by
  unfold zd
  rw [List.map_map]
  exact List.map_id _
/-- [(z, 0) for z in ..] -/
theorem evd_lcZ {tl : TE} {zs : List Str} {j : Nat} (h : EvL tl σ H (zs.map V.str)) (hl : zs.length < 100000) (hw : ∀ x, wipe ((wipe σ [j]).set j (some x)) [j] = wipe σ [j]) (hg : ∀ x, ((wipe σ [j]).set j (some x))[j]? = some (some x)) :
    EvD (tLc (iList K tl) (gName j) tYes (tTup (tCons (tVar j) (tCons (tC (.int 0)) tNil))) [j]) σ H (.list ((zd zs).map dItem)) := fun Q q =>
  h _ fun a H1 ha e1 hx => ⟨a, rfl, ⟨_, SqL.of hx⟩, fun Dd hD => by
    refine lc_nameD (walk_list (K := K) (a := a) (xs := zs.map V.str)) (fun i y H => ∀ z, zs[i]? = some z → Dt H y (dItem (z, .int 0))) (fun i y H H' e h z hz => (h z hz).go e) hD (by rw [List.length_map]; exact hl) (fun H2 e2 => SqL.of (e2 _ _ hx)) hw (fun i x H2 H3 hi e2 hacc y => ?_) (fun ys H2 hyl hr e2 hy => ?_)
    · obtain ⟨rfl, hy⟩ := y
      refine ⟨Same.refl _, fun Q2 q2 => ?_⟩
      rw [List.getElem?_map] at hy
      obtain ⟨z, hz, rfl⟩ := Option.map_eq_some_iff.mp hy
      refine ⟨_, hg _, by show 2 ≤ sizeLine; decide, fun p hp => q2 _ _ (same_upd hp) fun z' hz' => ?_⟩
      rw [hz] at hz'
      cases hz'
      refine .tup ?_ (.cons (.str z) (.cons (.int 0) .nil))
      obtain ⟨acc, hacc⟩ := hacc
      rw [hide_ne (fun e => by rw [e, hacc] at hp; cases hp), upd_same]
    · refine q _ _ (e1.trans e2) (.lst hy (dts_of (by rw [hyl, List.length_map, List.length_map]; unfold zd; rw [List.length_map]) fun i y d h1 h2 => ?_))
      unfold zd at h2
      rw [List.getElem?_map, List.getElem?_map] at h2
      obtain ⟨p, h3, rfl⟩ := Option.map_eq_some_iff.mp h2
      obtain ⟨z, h4, rfl⟩ := Option.map_eq_some_iff.mp h3
      exact (hr i y h1 z h4).go hide_same⟩
theorem ev_inTU {tb : TE} {z : Str} {os : List Str} (ha : Ev ta σ H (.str z)) (hb : ∀ H', Same H H' → EvU tb σ H' (os.map V.str)) : Ev (tOp (rIn K false) ta tb) σ H (.bl (decide (z ∈ os))) := fun Q q =>
  ha _ fun H1 e1 => hb H1 e1 _ fun p H2 hp e2 h => ⟨p, os.map V.str, rfl, .inr (SqT.of h), rfl, flat_strs os, by
    show Q (.bl (if false = true then _ else inV _ _)) H2
    rw [if_neg (by decide), inV_strs]
    exact q H2 (e1.trans e2)⟩
/-- dict(list(d.items()) + [(x, v)]) -/
abbrev rDictP (K : PySem.W.Frag) : List V → Hp → VK → Prop := fun xs H Q => ∃ (a : Addr) (ps : List Addr) (kvs : List (Key × V)), xs = [.ref a] ∧ SqL K H a (ps.map V.ref) ∧ Paired (fun p kv => SqT K H p [kV kv.1, kv.2]) ps kvs ∧ ∀ p, H p = none → Q (.ref p) (upd H p (.dK (mergeK [] kvs)))
theorem ek_dictCat {tx tv : TE} {a : Addr} {kvs : List (Key × V)} {k : Key} {v : V} (ha : Ev ta σ H (.ref a)) (h : H a = some (.dK kvs)) (hx : ∀ H', Same H H' → Ev tx σ H' (kV k)) (hv : ∀ H', Same H H' → Ev tv σ H' v) (hl : kvs.length ≤ 1000) :
    EvK (tCB (rDictP K) (tCons (tOp rCat (LiI.tListItems ta) (tLst (tCons (tTup (tCons tx (tCons tv tNil))) tNil))) tNil)) σ H (mergeK [] (kvs ++ [(k, v)])) := fun Q q =>
  el_items ha h _ fun p H1 ts hp e1 hpl hw => hx H1 e1 _ fun H2 e2 => hv H2 (e1.trans e2) _ fun H3 e3 => ⟨by show 2 ≤ sizeLine; decide, fun t ht => ⟨by show 1 ≤ sizeLine; decide, fun l hl' => by
    have e23 := e2.trans e3
    have e34 := (same_upd (o := HO.tup [kV k, v]) ht).trans (same_upd (o := HO.lst [V.ref t]) hl')
    have htl := hw.length
    refine ⟨p, l, ts.map V.ref, [.ref t], rfl, rfl, e34 _ _ (e23 _ _ hpl), upd_same, by rw [List.length_map, htl]; exact sz (by show kvs.length + 1 ≤ _; omega), fun m hm => ?_⟩
    have e45 := same_upd (o := HO.lst (ts.map V.ref ++ [V.ref t])) hm
    refine ⟨m, ts ++ [t], kvs ++ [(k, v)], rfl, SqL.of (by rw [upd_same, List.map_append]; rfl), paired_append (L2.Paired.mapP hw fun t kv h => SqT.of (e45 _ _ (e34 _ _ (e23 _ _ h)))) (.cons (SqT.of (e45 _ _ (same_upd hl' _ _ upd_same))) .nil), fun d hd => ?_⟩
    have eall := e1.trans (e23.trans (e34.trans e45))
    exact q d _ (eall.free hd) (eall.trans (same_upd hd)) upd_same⟩⟩
theorem ek_dictI {a : Addr} {kvs : List (Key × V)} (ha : Ev ta σ H (.ref a)) (h : H a = some (.dK kvs)) : EvK (tCB (rDictP K) (tCons (LiI.tListItems ta) tNil)) σ H (mergeK [] kvs) := ek_dictP fun Q q => el_items ha h Q q
/-- == and != of dicts just made -/
theorem ev_eqKK {k1 k2 : List (Key × V)} {d1 d2 : List (Str × PyData)} (ha : EvK ta σ H k1) (hb : ∀ H', Same H H' → EvK tb σ H' k2) (h1 : ∀ H', Dk H' k1 d1) (h2 : ∀ H', Dk H' k2 d2) (s1 : ∀ p ∈ d1, SeqAt.shaped p.2 = true) (s2 : ∀ p ∈ d2, SeqAt.shaped p.2 = true) : Ev (tOp rEqDK ta tb) σ H (.bl (eqDK d1 d2)) := fun Q q =>
  ha _ fun a H1 _ e1 ha1 => hb H1 e1 _ fun b H2 _ e2 hb2 => ⟨a, b, k1, k2, d1, d2, rfl, rfl, e2 _ _ ha1, hb2, h1 _, h2 _, s1, s2, q H2 (e1.trans e2)⟩
theorem ev_neKV {k1 k2 : List (Key × V)} {d1 d2 : List (Str × PyData)} {b : Addr} (ha : EvK ta σ H k1) (hb : ∀ H', Same H H' → Ev tb σ H' (.ref b)) (hb2 : H b = some (.dK k2)) (h1 : ∀ H', Dk H' k1 d1) (h2 : ∀ H', Dk H' k2 d2) (s1 : ∀ p ∈ d1, SeqAt.shaped p.2 = true) (s2 : ∀ p ∈ d2, SeqAt.shaped p.2 = true) : Ev (tOp rNeDK ta tb) σ H (.bl (!eqDK d1 d2)) := fun Q q =>
  ha _ fun a H1 _ e1 ha1 => hb H1 e1 _ fun H2 e2 => ⟨a, b, k1, k2, d1, d2, rfl, rfl, e2 _ _ ha1, (e1.trans e2) _ _ hb2, h1 _, h2 _, s1, s2, q H2 (e1.trans e2)⟩
/-- [x for x in zs if x != y] -/
theorem el_lcNe {tl : TE} {tt : TT} {zs : List Str} {y : Str} {j : Nat} (h : EvL tl σ H (zs.map V.str)) (hl : zs.length < 100000) (hw : ∀ x, wipe ((wipe σ [j]).set j (some x)) [j] = wipe σ [j]) (hg : ∀ x, ((wipe σ [j]).set j (some x))[j]? = some (some x))
    (ht : ∀ z H', Same H H' → EvB tt ((wipe σ [j]).set j (some (.str z))) H' (!decide (z = y))) : EvL (tLc (iList K tl) (gName j) tt (tVar j) [j]) σ H ((zs.filter fun z => !decide (z = y)).map V.str) := fun Q q =>
  h _ fun a H1 ha e1 hx => ⟨a, rfl, ⟨_, SqL.of hx⟩, fun Dd hD => by
    refine lc_it (walk_list (K := K) (a := a) (xs := zs.map V.str)) (fun i H2 => Same H1 H2 ∧ H2 Dd = some (.lst (((zs.take i).filter fun z => !decide (z = y)).map V.str))) ⟨same_upd hD, upd_same⟩ (fun i H2 _ p => SqL.of (p.1 _ _ hx)) (fun i x H2 H3 hi p yy => ?_) (fun H2 p => ?_)
    · obtain ⟨rfl, hy⟩ := yy
      rw [List.getElem?_map] at hy
      obtain ⟨z, hz, rfl⟩ := Option.map_eq_some_iff.mp hy
      refine ⟨hw _, ht z _ (e1.trans p.1) _ fun H4 e4 => ?_⟩
      have hd4 := e4 _ _ p.2
      have lt : ((zs.take i).filter fun z => !decide (z = y)).length < 100000 := by
        have h1 := List.length_filter_le (fun z => !decide (z = y)) (zs.take i)
        have h2 := List.length_take_le i zs
        have h3 : (zs.take i).length ≤ zs.length := by rw [List.length_take]; exact Nat.min_le_right _ _
        omega
      by_cases hb : (!decide (z = y)) = true
      · rw [if_pos hb]
        refine ⟨_, hg _, _, hd4, by rw [List.length_map]; exact szl lt, Same.mut (p.1.trans e4) hD, ?_⟩
        rw [upd_same, take_snoc hz, List.filter_append, List.map_append]
        simp [hb]
      · rw [if_neg hb]
        refine ⟨p.1.trans e4, ?_⟩
        rw [hd4, take_snoc hz, List.filter_append, List.map_append]
        simp [hb]
    · have hlen : (zs.map V.str).length = zs.length := List.length_map _
      rw [hlen, List.take_length] at p
      exact q Dd H2 (e1.free hD) (e1.trans p.1) p.2⟩
end
end Bc

namespace Bc
open PySem L2 PyProof.Rows StX
theorem dts_mem {H : Hp} : ∀ {xs : List V} {ds : List PyData}, Dts H xs ds → ∀ x ∈ xs, ∃ d ∈ ds, Dt H x d
  | _, _, .nil, _, h => absurd h (List.not_mem_nil)
  | _, _, .cons h r, x, hx => by
    rcases List.mem_cons.mp hx with e | m
    · exact ⟨_, List.mem_cons_self, by rw [e]; exact h⟩
    · obtain ⟨d, h1, h2⟩ := dts_mem r x m
      exact ⟨d, List.mem_cons_of_mem _ h1, h2⟩
theorem merge_one {kv : List (Key × V)} {k : Key} {v : V} (h : (kv.map fun p => p.1).Nodup) : mergeK [] (kv ++ [(k, v)]) = putK kv k v := by
  unfold mergeK
  rw [List.foldl_append]
  show putK (mergeK [] kv) k v = _
  rw [merge_nd0 h]
theorem valJ {y : Str} : valV (insD y) (.inr "j") = some (.str y) := by
  unfold insD
  rw [valV_cons, if_neg (by decide +kernel), valV_cons, if_pos rfl]
section
variable {K : PySem.W.Frag} {σ : L2.St} {H : Hp} {ta tb te : TE} {t : TS} {tt : TT} {D : Ends} {u : TS} {C : Addr}
theorem q_ifK {b : Bool} (h : EvB tt σ H b) (Ok : L2.St → Hp → Prop) (k : (∀ σ' H', Ok σ' H' → u D σ' H') → ∀ H', Same H H' → (b = true → t { D with nx := u D } σ H') ∧ (b = false → Ok σ H')) (hd : ∀ σ' H', Ok σ' H' → u D σ' H') : tSeq (tIfS tt t tNext) u D σ H := h _ fun H1 e1 => by
  have z := k hd H1 e1
  cases b with
  | true => exact iteT (z.1 rfl)
  | false => exact iteF (hd _ _ (z.2 rfl))
theorem el_strs2 {a b : Str} : EvL (tLst (tCons (tC (.str a)) (tCons (tC (.str b)) tNil))) σ H (([a, b] : List Str).map V.str) := fun Q1 q1 => ⟨by show 2 ≤ sizeLine; decide, fun p hp => q1 p _ hp (same_upd hp) upd_same⟩
theorem el_strs3 {a b c : Str} : EvL (tLst (tCons (tC (.str a)) (tCons (tC (.str b)) (tCons (tC (.str c)) tNil)))) σ H (([a, b, c] : List Str).map V.str) := fun Q1 q1 => ⟨by show 3 ≤ sizeLine; decide, fun p hp => q1 p _ hp (same_upd hp) upd_same⟩
theorem evx_0 {xs : List V} {v : V} (h : EvL ta σ H xs) (h0 : xs[0]? = some v) : Ev (tOp (rIxL K) ta (tC (.int 0))) σ H v := fun Q q => h _ fun p H1 hp e1 hx => ⟨p, xs, 0, v, rfl, rfl, SqL.of hx, atI_nat (j := 0) h0, q H1 e1⟩
theorem q_asgKn {te : TE} {i : Nat} {kvs : List (Key × V)} (h : EvK te σ H kvs) (k : ∀ p H', H p = none → Same H H' → H' p = some (.dK kvs) → u D (σ.set i (some (.ref p))) H') : tSeq (tAsg te (gName i)) u D σ H := h _ fun p H' hp e hx => k p H' hp e hx
end
/-- inlets that are others -/
def isA : Ins := [("i", "a")]
def isB (y : Str) : Ins := [("i", "a"), ("k", y)]
def isC (y : Str) : Ins := [("i", "a"), ("j", y), ("k", "a")]
theorem gi_isA {n : Nat} (h : 1 ≤ n) : GI n isA := ⟨by decide +kernel, by decide +kernel, ⟨"i", List.mem_cons_self⟩, fun p hp => by rw [List.mem_singleton.mp hp]; exact a_in h⟩
theorem gi_isB {n : Nat} {y : Str} (h : 1 ≤ n) (hy : y ∈ ab.take n) : GI n (isB y) := ⟨by show (["i", "k"] : List Str).Nodup; decide +kernel, by show ∀ x ∈ (["i", "k"] : List Str), _; decide +kernel, ⟨"i", List.mem_cons_self⟩, fun p hp => by
  rcases List.mem_cons.mp hp with h' | h'
  · rw [h']; exact a_in h
  · rw [List.mem_singleton.mp h']; exact hy⟩
theorem gi_isC {n : Nat} {y : Str} (h : 1 ≤ n) (hy : y ∈ ab.take n) : GI n (isC y) := ⟨by show (["i", "j", "k"] : List Str).Nodup; decide +kernel, by show ∀ x ∈ (["i", "j", "k"] : List Str), _; decide +kernel, ⟨"i", List.mem_cons_self⟩, fun p hp => by
  rcases List.mem_cons.mp hp with h' | h'
  · rw [h']; exact a_in h
  · rcases List.mem_cons.mp h' with h' | h'
    · rw [h']; exact hy
    · rw [List.mem_singleton.mp h']; exact a_in h⟩
theorem srtD_isA : srtD (id_ isA) = id_ isA := srtD_id (List.Perm.refl _) (by decide +kernel) (by decide +kernel) fun _ h => h
theorem srtD_isB {y : Str} : srtD (id_ (isB y)) = id_ (isB y) := srtD_id (List.Perm.refl _) (by show (["i", "k"] : List Str).Nodup; decide +kernel) (by show sortedS ["i", "k"] = true; decide +kernel) fun _ h => h
theorem srtD_isC {y : Str} : srtD (id_ (isC y)) = id_ (isC y) := srtD_id (List.Perm.refl _) (by show (["i", "j", "k"] : List Str).Nodup; decide +kernel) (by show sortedS ["i", "j", "k"] = true; decide +kernel) fun _ h => h
theorem ne_isA {y : Str} : eqDK (id_ isA) (id_ (is0 y)) = false := eqDK_len (by show (1 : Nat) ≠ 2; decide)
theorem ne_isC {y : Str} : eqDK (id_ (isC y)) (id_ (is0 y)) = false := eqDK_len (by show (3 : Nat) ≠ 2; decide)
theorem ne_isB {y : Str} : eqDK (id_ (isB y)) (id_ (is0 y)) = false := eqDK_ne (k := "k") (d := .str y) (List.mem_cons_of_mem _ List.mem_cons_self) fun e h => by
  have h1 : (("k" : Str) == "i") = false := by decide +kernel
  have h2 : (("k" : Str) == "j") = false := by decide +kernel
  have h' : List.lookup ("k" : Str) ([("i", PyData.str "a"), ("j", .str y)] : List (Str × PyData)) = some e := h
  rw [List.lookup_cons, h1] at h'
  have h'' : List.lookup ("k" : Str) ([("j", .str y)] : List (Str × PyData)) = some e := h'
  rw [List.lookup_cons, h2] at h''
  cases h''
theorem look_j {y : Str} : List.lookup ("j" : Str) (id_ (is0 y)) = some (.str y) := by
  have h1 : (("j" : Str) == "i") = false := by decide +kernel
  show List.lookup ("j" : Str) ([("i", PyData.str "a"), ("j", .str y)] : List (Str × PyData)) = _
  rw [List.lookup_cons, h1]
  show List.lookup ("j" : Str) ([("j", .str y)] : List (Str × PyData)) = _
  rw [List.lookup_cons]
  simp
theorem ne_is0 {z y : Str} (h : z ≠ y) : eqDK (id_ (is0 z)) (id_ (is0 y)) = false := eqDK_ne (k := "j") (d := .str z) (List.mem_cons_of_mem _ List.mem_cons_self) fun e he => by
  rw [look_j] at he
  cases he
  rw [eqv_str]
  exact decide_eq_false h
theorem other_y {r : Nat} {y : Str} (h1 : 1 ≤ r) : ∃ z ∈ ab.take (1 + r), z ≠ y := by
  by_cases h : y = "a"
  · refine ⟨"b", ?_, by rw [h]; decide +kernel⟩
    have e : 1 + r = (r - 1) + 2 := by omega
    rw [e]
    exact List.mem_cons_of_mem _ List.mem_cons_self
  · exact ⟨"a", a_in (by omega), fun e => h e.symm⟩
section
variable {K : PySem.W.Frag} {σ : L2.St} {H : Hp} {ta tb te : TE} {D : Ends} {u : TS} {C : Addr}
theorem q_dputD {td ty tv : TE} {a : Addr} {kvs : List (Key × V)} {k : Key} {d : PyData} (hv : EvD tv σ H d) (hd : ∀ H', Same H H' → Ev td σ H' (.ref a)) (hk : ∀ H', Same H H' → Ev ty σ H' (kV k)) (h : H a = some (.dK kvs)) (hl : kvs.length < 100000)
    (q : ∀ v H', Same H H' → Dt H' v d → u D σ (upd H' a (.dK (putK kvs k v)))) : tSeq (sDPut td ty tv) u D σ H := s_dputD (D := { D with nx := u D }) hv hd hk h hl q
theorem q_par3R {t1 t2 t3 : TE} {i j l : Nat} {k1 k2 : List (Key × V)} {xs : List V} (h1 : EvK t1 σ H k1) (h2 : ∀ H', Same H H' → EvK t2 σ H' k2) (h3 : ∀ H', Same H H' → EvL t3 σ H' xs)
    (k : ∀ p1 p2 p3 H1 H2 H3, H p1 = none → Same H H1 → H1 p1 = some (.dK k1) → H1 p2 = none → Same H1 H2 → H2 p2 = some (.dK k2) → H2 p3 = none → Same H2 H3 → H3 p3 = some (.lst xs) → u D (((σ.set i (some (.ref p1))).set j (some (.ref p2))).set l (some (.ref p3))) H3) :
    tSeq (tPar3 i j l (tCons t1 (tCons t2 (tCons t3 tNil)))) u D σ H :=
  h1 _ fun p1 H1 hp1 e1 g1 => h2 H1 e1 _ fun p2 H2 hp2 e2 g2 => h3 H2 (e1.trans e2) _ fun p3 H3 hp3 e3 g3 => ⟨_, _, _, rfl, k p1 p2 p3 H1 H2 H3 hp1 e1 g1 hp2 e2 g2 hp3 e3 g3⟩
theorem q_app {ta te : TE} {l : Addr} {xs : List V} {v : V} (hl : H l = some (.lst xs)) (ha : Ev ta σ H (.ref l)) (hv : ∀ H', Same H H' → Ev te σ H' v) (hz : xs.length < 100000)
    (k : ∀ H', Same H H' → u D σ (upd H' l (.lst (xs ++ [v])))) : tSeq (tDrop (tBM K "list" rAppend ta (tCons te tNil))) u D σ H := s_app (D := { D with nx := u D }) hl ha hv hz k
theorem NetNew.mut {H0 H : Hp} {x p : Addr} {ks : Knots} {is : Ins} {os : List Str} {o o0 : HO} (n : NetNew H0 H C x (kd ks) (id_ is) os) (h0 : H0 p = some o0) (hp : (∃ kvs, H p = some (.dK kvs)) ∨ ∃ xs, H p = some (.lst xs)) : NetNew H0 (upd H p o) C x (kd ks) (id_ is) os := by
  obtain ⟨dx, ka, ia, oa, kv, iv, h1, h2, h3, h4, h5, h6, h7, h8⟩ := n.ex
  have nx : x ≠ p := fun e => by
    rw [e] at h1
    rcases hp with ⟨_, h⟩ | ⟨_, h⟩ <;> rw [h] at h1 <;> cases h1
  have nk : ka ≠ p := fun e => by rw [e, h0] at h7; cases h7
  have ni : ia ≠ p := fun e => by rw [e, h0] at h8; cases h8
  have no : oa ≠ p := fun e => by
    rw [e] at h6
    rcases hp with ⟨_, h⟩ | ⟨_, h⟩ <;> rw [h] at h6 <;> cases h6
  have ts : Tsm H (upd H p o) := Tsm.upd fun xs h' => by rcases hp with ⟨_, h⟩ | ⟨_, h⟩ <;> rw [h] at h' <;> cases h'
  exact ⟨dx, ka, ia, oa, kv, iv, by rw [upd_ne nx]; exact h1, by rw [upd_ne nk]; exact h2, Dk.kd_ts ts h3, by rw [upd_ne ni]; exact h4, id_any h5, by rw [upd_ne no]; exact h6, h7, h8⟩
end
def tdd (zs : List Str) : List (Str × PyData) := zs.map fun z => (z, if z = "a" then .int 99 else .int 0)
theorem tdd_keys (zs : List Str) : (tdd zs).map (fun p => p.1) = zs := by
  unfold tdd
  rw [List.map_map]
  exact List.map_id _
theorem dk_told {zs : List Str} (h : ("a" : Str) ∈ zs) (H : Hp) : Dk H (putK (zeros zs) (.inr "a") (.int 99)) (tdd zs) := by
  have e : ((zeros zs).any fun q => decide (q.1 = (.inr "a" : Key))) = true := by
    rw [List.any_eq_true]
    exact ⟨(.inr "a", .int 0), List.mem_map.mpr ⟨"a", h, rfl⟩, decide_eq_true rfl⟩
  unfold putK
  rw [if_pos e]
  clear e h
  induction zs with
  | nil => exact .nil
  | cons z r ih =>
    show Dk H ((if (Sum.inr z : Key) = .inr "a" then ((Sum.inr z : Key), V.int 99) else (.inr z, .int 0)) :: _) ((z, if z = "a" then PyData.int 99 else .int 0) :: _)
    by_cases hz : z = "a"
    · rw [if_pos (by rw [hz]), if_pos hz]
      exact .cons (.int 99) ih
    · rw [if_neg (fun q => hz (Sum.inr.inj q)), if_neg hz]
      exact .cons (.int 0) ih
theorem zd_shaped (zs : List Str) : ∀ p ∈ zd zs, SeqAt.shaped p.2 = true := fun p hp => by
  obtain ⟨z, _, rfl⟩ := List.mem_map.mp hp
  rfl
theorem tdd_shaped (zs : List Str) : ∀ p ∈ tdd zs, SeqAt.shaped p.2 = true := fun p hp => by
  obtain ⟨z, _, rfl⟩ := List.mem_map.mp hp
  show SeqAt.shaped (if z = "a" then .int 99 else .int 0) = true
  split <;> rfl
theorem zd_refl {zs : List Str} (hn : zs.Nodup) : eqDK (zd zs) (zd zs) = true := eqDK_refl (by rw [zd_keys]; exact hn) fun p hp => by
  obtain ⟨z, _, rfl⟩ := List.mem_map.mp hp
  rfl
theorem zd_told {zs : List Str} (hn : zs.Nodup) (h : ("a" : Str) ∈ zs) : eqDK (zd zs) (tdd zs) = false := eqDK_ne (k := "a") (d := .int 0) (List.mem_map.mpr ⟨"a", h, rfl⟩) fun e he => by
  have hm : (("a" : Str), PyData.int 99) ∈ tdd zs := List.mem_map.mpr ⟨"a", h, by rw [if_pos rfl]⟩
  rw [lookup_nd (by rw [tdd_keys]; exact hn) hm] at he
  cases he
  rfl
end Bc

namespace Bc
open PySem L2 PyProof.Rows StX
theorem nameErr_at : ∀ {zs seen : List Str} {rest : List PyData}, (∀ z ∈ zs, okName z = true) → (seen ++ zs).Nodup → nameErr seen (zs.map PyData.str ++ rest) = nameErr (seen ++ zs) rest
  | [], seen, rest, _, _ => by rw [List.append_nil]; rfl
  | z :: r, seen, rest, h, nd => by
    have h1 := h z List.mem_cons_self
    have nd2 : ((seen ++ [z]) ++ r).Nodup := by rw [List.append_assoc]; exact nd
    have h2 : z ∉ seen := fun m => (List.nodup_append.mp nd).2.2 z m z List.mem_cons_self rfl
    show (if (!okName z || decide (z ∈ seen)) = true then some (V.str z) else nameErr (seen ++ [z]) (r.map PyData.str ++ rest)) = _
    rw [h1, decide_eq_false h2]
    have e := nameErr_at (rest := rest) (fun y hy => h y (List.mem_cons_of_mem _ hy)) nd2
    rw [List.append_assoc] at e
    exact e
/-- no name, or one that stands there: told -/
theorem nameErr_bad {seen : List Str} {z : Str} {rest : List PyData} (h : okName z = false ∨ z ∈ seen) : nameErr seen (.str z :: rest) = some (.str z) := by
  have q : (!okName z || decide (z ∈ seen)) = true := by
    rcases h with h | h
    · rw [h]; rfl
    · rw [decide_eq_true h]; exact Bool.or_true _
  show (if (!okName z || decide (z ∈ seen)) = true then some (V.str z) else _) = _
  rw [if_pos q]
theorem nameErr_int {seen : List Str} {i : Int} {rest : List PyData} : nameErr seen (.int i :: rest) = some .non := rfl
section
variable {C B : Addr} {H : Hp} {a b c : Addr} {kv iv : List (Key × V)} {vi vo v : V}
theorem ref_kinds {n : Option Nat} {q : Bool} (ha : H a = some (.dK kv)) (hi : InK H vi n) (ho : OutK H vo q) (hb : kindsOk kv.length n q = false) : Refuses C B H a kv vi vo .non := ⟨ha, fun x Q E _ r => .inl ⟨n, q, hi, ho, hb, r⟩⟩
/-- what stands first: kinds and sizes -/
structure Kin (H : Hp) (a b c : Addr) (kv iv : List (Key × V)) (ov : List V) : Prop where
  ne : a ≠ b
  ha : H a = some (.dK kv)
  hb : H b = some (.dK iv)
  hc : H c = some (.lst ov) ∨ H c = some (.tup ov)
  k1 : 1 ≤ kv.length
  k12 : kv.length ≤ 12
  i1 : iv.length ≠ 0
  i60 : iv.length < 60
  o60 : ov.length < 60
theorem ref_names {ov : List V} {nds : List PyData} (N : Kin H a b c kv iv ov) (hn : Dts H ((kv.map fun kv : Key × V => kV kv.1) ++ (ov ++ ((iv.map fun kv : Key × V => kV kv.1) ++ []))) nds) (hz : ∀ z, PyData.str z ∈ nds → z.length ≤ 1000 ∧ Bn.TellV (.str z))
    (he : nameErr [] nds = some v) : Refuses C B H a kv (.ref b) (.ref c) v := ⟨N.ha, fun x Q E _ r => .inr ⟨b, c, iv, ov, nds, rfl, rfl, N.ne, N.hb, N.hc, N.k1, N.k12, N.i1, N.i60, N.o60, hn, hz, .inl ⟨v, he, r⟩⟩⟩
/-- all names are well told -/
structure Nam (H : Hp) (a b c : Addr) (kv iv : List (Key × V)) (ds es : List (Str × PyData)) (os : List Str) : Prop where
  kin : Kin H a b c kv iv (os.map V.str)
  hkd : Dk H kv ds
  hie : Dk H iv es
  ok : ∀ z ∈ keysD ds ++ os ++ keysD es, okName z = true ∧ z.length ≤ 1000 ∧ Bn.TellV (.str z)
  nd : (keysD ds ++ os ++ keysD es).Nodup
  small : ∀ p ∈ ds, smallN 2 p.2
theorem keys_kV {kvs : List (Key × V)} {ds : List (Str × PyData)} (h : Dk H kvs ds) : (kvs.map fun kv : Key × V => kV kv.1) = (keysD ds).map V.str := by
  have q := congrArg (List.map kV) h.keys
  rw [List.map_map, List.map_map] at q
  exact q
theorem end_rows {ds es : List (Str × PyData)} {os : List Str} {x : Addr} {Q : VK} {E : XK} (N : Nam H a b c kv iv ds es os)
    (k : (∃ z, (srt (keysD ds)).find? (rowsBad ds os) = some z ∧ Raised B (.str z) H E) ∨ ((srt (keysD ds)).find? (rowsBad ds os) = none ∧ ((∃ p, es.find? (inBad (keysD ds)) = some p ∧ Raised B (.str p.1) H E) ∨ (es.find? (inBad (keysD ds)) = none ∧ EndMet C B H x a b kv iv ds es os Q E)))) :
    EndNames C B H x a kv (.ref b) (.ref c) Q E := by
  have t := N.kin
  refine ⟨b, c, iv, os.map V.str, (keysD ds ++ os ++ keysD es).map PyData.str, rfl, rfl, t.ne, t.hb, t.hc, t.k1, t.k12, t.i1, t.i60, t.o60, ?_, fun z hz => ?_, .inr ⟨nameErr_ok (fun z hz => (N.ok z hz).1) N.nd, ds, es, os, N.hkd, N.hie, rfl, N.nd, fun p hp => ⟨N.small p hp, (N.ok p.1 (List.mem_append_left _ (List.mem_append_left _ (List.mem_map.mpr ⟨p, hp, rfl⟩)))).2.2⟩, fun p hp => (N.ok p.1 (List.mem_append_right _ (List.mem_map.mpr ⟨p, hp, rfl⟩))).2.2, k⟩⟩
  · rw [keys_kV N.hkd, keys_kV N.hie, List.append_nil, ← List.append_assoc, ← List.map_append, ← List.map_append]
    exact Dts.strs _
  · obtain ⟨y, hy, e⟩ := List.mem_map.mp hz
    cases e
    exact (N.ok _ hy).2
theorem ref_rows {ds es : List (Str × PyData)} {os : List Str} {z : Str} (N : Nam H a b c kv iv ds es os) (hz : (srt (keysD ds)).find? (rowsBad ds os) = some z) : Refuses C B H a kv (.ref b) (.ref c) (.str z) := ⟨N.kin.ha, fun x Q E _ r => .inr (end_rows N (.inl ⟨z, hz, r⟩))⟩
theorem ref_in {ds es : List (Str × PyData)} {os : List Str} {p : Str × PyData} (N : Nam H a b c kv iv ds es os) (h0 : (srt (keysD ds)).find? (rowsBad ds os) = none) (hp : es.find? (inBad (keysD ds)) = some p) : Refuses C B H a kv (.ref b) (.ref c) (.str p.1) := ⟨N.kin.ha, fun x Q E _ r => .inr (end_rows N (.inr ⟨h0, .inl ⟨p, hp, r⟩⟩))⟩
theorem ref_met {ks : Knots} {is : Ins} {os : List Str} {z : Str} (N : NetIn H a b kv iv ks is) (hc : H c = some (.lst (os.map V.str)) ∨ H c = some (.tup (os.map V.str))) (ok : OkNet ks is os) (first : ∀ zs, Closed ks is zs → (∀ y ∈ zs, Reach ks is y) → (srt (kn ks)).find? (fun y => !decide (y ∈ zs)) = some z) :
    Refuses C B H a kv (.ref b) (.ref c) (.str z) := ⟨N.ha, fun x Q E _ r => .inr (end_unmet N hc ok first r)⟩
/-- the one knot whose rows are wrong -/
theorem one_bad {ds : List (Str × PyData)} {os : List Str} {z : Str} (hz : z ∈ keysD ds) (hb : rowsBad ds os z = true) (ho : ∀ y ∈ keysD ds, y ≠ z → rowsBad ds os y = false) : (srt (keysD ds)).find? (rowsBad ds os) = some z := by
  cases h : (srt (keysD ds)).find? (rowsBad ds os) with
  | none => exact absurd hb (by
      have := List.find?_eq_none.mp h z ((srt_perm _).mem_iff.mpr hz)
      simpa using this)
  | some y =>
    have h1 := List.find?_some h
    have h2 := (srt_perm _).mem_iff.mp (List.mem_of_find?_eq_some h)
    by_cases e : y = z
    · rw [e]
    · rw [ho y h2 e] at h1
      cases h1
end
end Bc

namespace Bc
open PySem L2 PyProof.Rows StX
/-! ### the ten rows that are none -/
section
variable {S : Str → Bool} {f t d : PyData} {l : List PyData}
theorem row_last (h : okDrop S d = false) : okRow S (.tuple (l ++ [d])) = false := by
  show (decide ((l ++ [d]).length ≤ 12) && (l ++ [d]).all (okDrop S)) = false
  rw [List.all_append, List.all_cons, h]
  simp
theorem row_long (h : 12 < l.length) : okRow S (.tuple l) = false := by
  show (decide (l.length ≤ 12) && _) = false
  rw [decide_eq_false (by omega)]
  rfl
theorem rows_turn (h : okRow S t = false) : okRows S (.tuple [f, t]) = false := by
  show (okRow S f && (okRow S t && _)) = false
  rw [h]
  simp
theorem rows_front (h : okRow S f = false) : okRows S (.tuple [f, t]) = false := by
  show (okRow S f && _) = false
  rw [h]
  rfl
theorem rows_empty : okRows S (.tuple [f, .tuple []]) = false := by
  show (okRow S f && (okRow S (.tuple []) && decide (0 < 0))) = false
  simp
theorem drop_out {x : Str} (h : S x = false) : okDrop S (.tuple [.str x]) = false := by
  show (decide (1 ≤ 4) && (S x && true)) = false
  rw [h]
  rfl
theorem drop_int {i : Int} : okDrop S (.tuple [.int i]) = false := rfl
theorem drop_text {x : Str} : okDrop S (.str x) = false := rfl
theorem drop_five {l : List PyData} (h : 4 < l.length) : okDrop S (.tuple l) = false := by
  show (decide (l.length ≤ 4) && _) = false
  rw [decide_eq_false (by omega)]
  rfl
theorem rows_list : okRows S (.tuple [f, .list l]) = false := rows_turn rfl
theorem rows_one : okRows S (.tuple [f]) = false := rfl
theorem rows_non : okRows S .none = false := rfl
end
end Bc

/-! what the law asks to be refused -/
namespace Bc
open PySem L2 PyProof.Rows StX
/-! ### a dict's data, one of them another -/
def updD (ds : List (Str × PyData)) (x : Str) (d : PyData) : List (Str × PyData) := ds.map fun p => if p.1 = x then (p.1, d) else p
theorem keys_updD (ds : List (Str × PyData)) (x : Str) (d : PyData) : keysD (updD ds x d) = keysD ds := by
  unfold keysD updD
  rw [List.map_map]
  refine List.map_congr_left fun p _ => ?_
  show (if p.1 = x then (p.1, d) else p).1 = p.1
  split <;> rfl
theorem look_updD {x : Str} {d : PyData} : ∀ {ds : List (Str × PyData)}, x ∈ keysD ds → (updD ds x d).lookup x = some d
  | [], h => nomatch h
  | (j, e) :: r, h => by
    show List.lookup x ((if j = x then (j, d) else (j, e)) :: updD r x d) = _
    by_cases q : j = x
    · rw [if_pos q, List.lookup_cons, q]
      simp
    · rw [if_neg q, List.lookup_cons]
      have q2 : (x == j) = false := by simpa using fun z => q z.symm
      rw [q2]
      rcases List.mem_cons.mp h with h | h
      · exact absurd h.symm q
      · exact look_updD h
theorem look_updD_ne {x y : Str} {d : PyData} (ne : y ≠ x) : ∀ {ds : List (Str × PyData)}, (updD ds x d).lookup y = ds.lookup y
  | [] => rfl
  | (j, e) :: r => by
    show List.lookup y ((if j = x then (j, d) else (j, e)) :: updD r x d) = _
    by_cases q : j = x
    · have q2 : (y == j) = false := by simpa using fun z => ne (z.trans q)
      rw [if_pos q, List.lookup_cons, List.lookup_cons, q2]
      exact look_updD_ne ne
    · rw [if_neg q, List.lookup_cons, List.lookup_cons, look_updD_ne ne]
theorem dk_updD {H : Hp} {x : Str} {v : V} {d : PyData} (hv : Dt H v d) {ds : List (Str × PyData)} {kv : List (Key × V)} (h : Dk H kv ds) (hm : x ∈ keysD ds) : Dk H (putK kv (.inr x) v) (updD ds x d) := by
  have key : ∀ {ds : List (Str × PyData)} {kv : List (Key × V)}, Dk H kv ds → Dk H (kv.map fun q => if q.1 = .inr x then (q.1, v) else q) (updD ds x d) := by
    intro ds
    induction ds with
    | nil => intro kv h; cases h; exact .nil
    | cons p r' ih =>
      intro kv h
      obtain ⟨z, e⟩ := p
      cases h with
      | cons h1 h2 =>
        rename_i v0 kvs0
        show Dk H ((if (Sum.inr z : Key) = .inr x then ((Sum.inr z : Key), v) else (.inr z, v0)) :: kvs0.map (fun q => if q.1 = (.inr x : Key) then (q.1, v) else q)) ((if z = x then (z, d) else (z, e)) :: updD r' x d)
        by_cases q : z = x
        · subst q
          rw [if_pos rfl, if_pos rfl]
          exact .cons hv (ih h2)
        · rw [if_neg (fun z => q (Sum.inr.inj z)), if_neg q]
          exact .cons h1 (ih h2)
  have e : (kv.any fun q => decide (q.1 = .inr x)) = true := by
    rw [List.any_eq_true]
    have : (Sum.inr x : Key) ∈ kv.map (·.1) := by
      rw [h.keys]
      exact List.mem_map.mpr ⟨x, hm, rfl⟩
    obtain ⟨q, h1, h2⟩ := List.mem_map.mp this
    exact ⟨q, h1, decide_eq_true h2⟩
  unfold putK
  rw [if_pos e]
  exact key h
/-! ### what stands while the law runs -/
structure LB (H : Hp) (ka ia : Addr) (kv : List (Key × V)) (n : Nat) (ks : Knots) (y : Str) : Prop where
  g : GK n ks
  hkn : kn ks = ab.take n
  hy : y ∈ ab.take n
  ne : ka ≠ ia
  hk : H ka = some (.dK kv)
  dk : Dk H kv (kd ks)
  hi : H ia = some (.dK (insD y))
theorem LB.go {H H' : Hp} {ka ia : Addr} {kv : List (Key × V)} {n : Nat} {ks : Knots} {y : Str} (f : LB H ka ia kv n ks y) (e : Same H H') : LB H' ka ia kv n ks y := ⟨f.g, f.hkn, f.hy, f.ne, e _ _ f.hk, f.dk.go e, e _ _ f.hi⟩
theorem LB.len {H : Hp} {ka ia : Addr} {kv : List (Key × V)} {n : Nat} {ks : Knots} {y : Str} (f : LB H ka ia kv n ks y) : kv.length = n := by
  rw [f.dk.length]
  show (ks.map _).length = n
  rw [List.length_map]
  exact len_ab f.g
theorem LB.keys {H : Hp} {ka ia : Addr} {kv : List (Key × V)} {n : Nat} {ks : Knots} {y : Str} (f : LB H ka ia kv n ks y) : kv.map (·.1) = (kn ks).map Sum.inr := by
  rw [f.dk.keys, kd_keys]
theorem LB.ok {H : Hp} {ka ia : Addr} {kv : List (Key × V)} {n : Nat} {ks : Knots} {y : Str} (f : LB H ka ia kv n ks y) : OkNet ks (is0 y) ["o", "p"] := ok_net f.g (gi_is0 f.g.pos f.hy) go_op
theorem LB.nd {H : Hp} {ka ia : Addr} {kv : List (Key × V)} {n : Nat} {ks : Knots} {y : Str} (f : LB H ka ia kv n ks y) : (kv.map fun p => p.1).Nodup := by
  show (kv.map (·.1)).Nodup
  rw [f.keys]
  exact List.pairwise_map.mpr (List.Pairwise.imp (fun ne e => ne (Sum.inr.inj e)) (nd_ab f.g))
def TgsIn (ks : Knots) : Str → Bool := fun x => decide (x ∈ kn ks ++ (["o", "p"] : List Str))
section
variable {C B : Addr} {H : Hp} {a c ka ia : Addr} {kv : List (Key × V)} {n : Nat} {ks : Knots} {y : Str}
/-- one knot's rows are none -/
theorem ref_bad {z : Str} {v : V} {d : PyData} (f : LB H ka ia kv n ks y) (hz : z ∈ kn ks) (ha : H a = some (.dK (putK kv (.inr z) v))) (hd : Dt H v d) (sm : smallN 2 d) (bad : okRows (TgsIn ks) d = false)
    (hc : H c = some (.tup [.str "o", .str "p"])) (ne : a ≠ ia) : Refuses C B H a (putK kv (.inr z) v) (.ref ia) (.ref c) (.str z) := by
  have ok := f.ok
  have hk0 : keysD (kd ks) = kn ks := kd_keys ks
  have hi0 : keysD (id_ (is0 y)) = inn (is0 y) := id_keys _
  have hku : keysD (updD (kd ks) z d) = kn ks := (keys_updD _ _ _).trans hk0
  have dk := dk_updD hd f.dk (by rw [hk0]; exact hz)
  have dl := dk.length
  have ul : (updD (kd ks) z d).length = n := by
    show ((ks.map _).map _).length = n
    rw [List.length_map, List.length_map]
    exact len_ab f.g
  have n1 := f.g.pos
  have n4 := f.g.le
  refine ref_rows (ds := updD (kd ks) z d) (es := id_ (is0 y)) (os := ["o", "p"]) ⟨⟨ne, ha, f.hi, .inr hc, by omega, by omega, by show (2 : Nat) ≠ 0; decide, by show (2 : Nat) < 60; decide, by show (2 : Nat) < 60; decide⟩, dk, dk_is0, ?_, ?_, fun p hp => ?_⟩ (one_bad ?_ ?_ fun x hx hne => ?_)
  · rw [hku, hi0]
    exact ok.names
  · rw [hku, hi0]
    exact ok.nd
  · obtain ⟨q, hq, e⟩ := List.mem_map.mp hp
    by_cases hqz : q.1 = z
    · rw [if_pos hqz] at e
      rw [← e]
      exact sm
    · rw [if_neg hqz] at e
      rw [← e]
      obtain ⟨q', hq', rfl⟩ := List.mem_map.mp hq
      have r := ok.rows q' hq'
      exact small_rows ⟨by have := r.front.1; omega, fun d hd => by have := (r.front.2 d hd).1; omega⟩ ⟨by have := r.turn.1; omega, fun d hd => by have := (r.turn.2 d hd).1; omega⟩
  · rw [hku]
    exact hz
  · unfold rowsBad
    rw [look_updD (by rw [hk0]; exact hz), hku]
    show (!okRows (TgsIn ks) d) = true
    rw [bad]
    rfl
  · unfold rowsBad
    rw [look_updD_ne hne, hku]
    rw [hku] at hx
    obtain ⟨⟨x', r⟩, hm, rfl⟩ := List.mem_map.mp hx
    rw [kd_get (nd_ab f.g) hm]
    show (!okRows _ (dRows r)) = false
    rw [okRows_ok (ok.rows _ hm)]
    rfl
/-! ### names -/
def Short (z : Str) : Prop := z.length ≤ 1000 ∧ Bn.TellV (.str z)
theorem short_of {z : Str} (h : z.length ≤ 1000) (k : (PySem.reprText z).length ≤ 1000) : Short z := ⟨h, tell_of k (Nat.le_refl _)⟩
/-- a name that is told -/
theorem ref_name {b : Addr} {kv iv : List (Key × V)} {ov : List V} {pre post : List Str} {d : PyData} {v : V} (N : Kin H a b c kv iv ov) (hn : Dts H ((kv.map fun kv : Key × V => kV kv.1) ++ (ov ++ ((iv.map fun kv : Key × V => kV kv.1) ++ []))) (pre.map PyData.str ++ (d :: post.map PyData.str)))
    (he : ∀ rest, nameErr pre (d :: rest) = some v) (ok : ∀ z ∈ pre, okName z = true) (nd : pre.Nodup) (hp : ∀ z ∈ pre, Short z) (hq : ∀ z ∈ post, Short z) (hd : ∀ z, d = .str z → Short z) : Refuses C B H a kv (.ref b) (.ref c) v := by
  refine ref_names N hn (fun z hz => ?_) ?_
  · rcases List.mem_append.mp hz with h | h
    · obtain ⟨x, hx, e⟩ := List.mem_map.mp h
      cases e
      exact hp _ hx
    · rcases List.mem_cons.mp h with h | h
      · exact hd z h.symm
      · obtain ⟨x, hx, e⟩ := List.mem_map.mp h
        cases e
        exact hq _ hx
  · have e := nameErr_at (zs := pre) (seen := []) (rest := d :: post.map PyData.str) ok (by rw [List.nil_append]; exact nd)
    rw [List.nil_append] at e
    rw [e]
    exact he _
/-- keys that are no names -/
inductive Wr : Key → PyData → V → Prop
  | str (z : Str) : okName z = false → Short z → Wr (.inr z) (.str z) (.str z)
  | int (i : Int) : Wr (.inl i) (.int i) .non
theorem Wr.err {k : Key} {d : PyData} {v : V} (h : Wr k d v) (seen : List Str) : ∀ rest, nameErr seen (d :: rest) = some v := fun rest => by
  cases h with
  | str z h _ => exact nameErr_bad (.inl h)
  | int i => rfl
theorem Wr.short {k : Key} {d : PyData} {v : V} (h : Wr k d v) : ∀ z, d = .str z → Short z := fun z e => by
  cases h with
  | str z' _ h => cases e; exact h
  | int i => cases e
theorem Wr.dt {k : Key} {d : PyData} {v : V} (h : Wr k d v) : Dt H (kV k) d := by
  cases h with
  | str z _ _ => exact .str z
  | int i => exact .int i
theorem Wr.new {k : Key} {d : PyData} {v : V} (h : Wr k d v) {zs : List Str} {kvs : List (Key × V)} (hk : kvs.map (·.1) = zs.map Sum.inr) (ok : ∀ z ∈ zs, okName z = true) : k ∉ kvs.map fun p => p.1 := by
  show k ∉ kvs.map (·.1)
  rw [hk]
  intro m
  obtain ⟨z, hz, e⟩ := List.mem_map.mp m
  cases h with
  | str z' h' _ =>
    have := Sum.inr.inj e
    subst this
    rw [ok _ hz] at h'
    cases h'
  | int i => cases e
theorem short_mem {z : Str} (h : z ∈ ab ++ (["o", "p", "q"] : List Str) ++ (["i", "j", "k"] : List Str)) : Short z := ⟨(all10 z h).2.1, tell_of (tell10 z h) (by decide)⟩
theorem short_op : ∀ z ∈ (["o", "p"] : List Str), Short z := fun z hz => short_mem (List.mem_append_left _ (List.mem_append_right _ (by
  rcases List.mem_cons.mp hz with h | h
  · rw [h]; exact List.mem_cons_self
  · rw [List.mem_singleton.mp h]; exact List.mem_cons_of_mem _ List.mem_cons_self)))
theorem short_ij : ∀ z ∈ (["i", "j"] : List Str), Short z := fun z hz => short_mem (List.mem_append_right _ (by
  rcases List.mem_cons.mp hz with h | h
  · rw [h]; exact List.mem_cons_self
  · rw [List.mem_singleton.mp h]; exact List.mem_cons_of_mem _ List.mem_cons_self))
theorem LB.names {H : Hp} (f : LB H ka ia kv n ks y) : ∀ z ∈ kn ks, okName z = true ∧ Short z := fun z hz => f.ok.names z (List.mem_append_left _ (List.mem_append_left _ hz))
theorem LB.kV_keys {H : Hp} (f : LB H ka ia kv n ks y) : (kv.map fun kv : Key × V => kV kv.1) = (kn ks).map V.str := by
  have z := keys_kV f.dk
  have hk0 : keysD (kd ks) = kn ks := kd_keys ks
  rw [hk0] at z
  exact z
/-- in the knots -/
theorem ref_wk {k : Key} {d : PyData} {v u : V} (w : Wr k d v) (f : LB H ka ia kv n ks y) (ha : H a = some (.dK (kv ++ [(k, u)]))) (hc : H c = some (.tup [.str "o", .str "p"])) (ne : a ≠ ia) : Refuses C B H a (kv ++ [(k, u)]) (.ref ia) (.ref c) v := by
  have hl := f.len
  have n4 := f.g.le
  refine ref_name (pre := kn ks) (post := ["o", "p", "i", "j"]) (d := d) ⟨ne, ha, f.hi, .inr hc, by rw [List.length_append]; show 1 ≤ kv.length + 1; omega, by rw [List.length_append]; show kv.length + 1 ≤ 12; omega, by show (2 : Nat) ≠ 0; decide, by show (2 : Nat) < 60; decide, by show (2 : Nat) < 60; decide⟩ ?_ (w.err _) (fun z hz => (f.names z hz).1) (nd_ab f.g) (fun z hz => (f.names z hz).2) (fun z hz => ?_) w.short
  · rw [List.map_append, f.kV_keys, List.append_assoc]
    exact (Dts.strs (kn ks)).append (.cons w.dt (Dts.strs ["o", "p", "i", "j"]))
  · rcases List.mem_append.mp (show z ∈ (["o", "p"] : List Str) ++ (["i", "j"] : List Str) from hz) with h | h
    · exact short_op z h
    · exact short_ij z h
theorem op_ok : ∀ z ∈ (["o", "p"] : List Str), okName z = true := by decide +kernel
theorem LB.pre {H : Hp} (f : LB H ka ia kv n ks y) : (∀ z ∈ kn ks ++ (["o", "p"] : List Str), okName z = true) ∧ (kn ks ++ (["o", "p"] : List Str)).Nodup ∧ ∀ z ∈ kn ks ++ (["o", "p"] : List Str), Short z :=
  ⟨fun z hz => (f.ok.names z (List.mem_append_left _ hz)).1, (List.nodup_append.mp f.ok.nd).1, fun z hz => (f.ok.names z (List.mem_append_left _ hz)).2⟩
theorem LB.kin {H : Hp} (f : LB H ka ia kv n ks y) {b : Addr} {iv : List (Key × V)} {ov : List V} (hb : H b = some (.dK iv)) (hc : H c = some (.tup ov)) (ne : ka ≠ b) (h1 : iv.length ≠ 0) (h2 : iv.length < 60) (h3 : ov.length < 60) : Kin H ka b c kv iv ov := by
  have hl := f.len
  have n1 := f.g.pos
  have n4 := f.g.le
  exact ⟨ne, f.hk, hb, .inr hc, by omega, by omega, h1, h2, h3⟩
/-- in the outlets: told behind o and p -/
theorem ref_out {d : PyData} {v u : V} (f : LB H ka ia kv n ks y) (hc : H c = some (.tup [.str "o", .str "p", u])) (hu : Dt H u d) (he : ∀ rest, nameErr (kn ks ++ (["o", "p"] : List Str)) (d :: rest) = some v) (hd : ∀ z, d = .str z → Short z) : Refuses C B H ka kv (.ref ia) (.ref c) v := by
  obtain ⟨p1, p2, p3⟩ := f.pre
  refine ref_name (pre := kn ks ++ (["o", "p"] : List Str)) (post := ["i", "j"]) (d := d) (f.kin f.hi hc f.ne (by show (2 : Nat) ≠ 0; decide) (by show (2 : Nat) < 60; decide) (by show (3 : Nat) < 60; decide)) ?_ he p1 p2 p3 short_ij hd
  rw [f.kV_keys, List.map_append, List.append_assoc]
  exact (Dts.strs (kn ks)).append (.cons (.str "o") (.cons (.str "p") (.cons hu (Dts.strs ["i", "j"]))))
/-- in the inlets, behind i and j -/
theorem ref_inl {k : Key} {d : PyData} {v u : V} {b : Addr} (w : Wr k d v) (f : LB H ka ia kv n ks y) (hb : H b = some (.dK (insD y ++ [(k, u)]))) (ne : ka ≠ b) (hc : H c = some (.tup [.str "o", .str "p"])) : Refuses C B H ka kv (.ref b) (.ref c) v := by
  have nm := f.ok.names
  refine ref_name (pre := kn ks ++ (["o", "p"] : List Str) ++ inn (is0 y)) (post := []) (d := d) (f.kin hb hc ne (by show (3 : Nat) ≠ 0; decide) (by show (3 : Nat) < 60; decide) (by show (2 : Nat) < 60; decide)) ?_ (w.err _) (fun z hz => (nm z hz).1) f.ok.nd (fun z hz => (nm z hz).2) (fun z hz => nomatch hz) w.short
  simp only [f.kV_keys, List.map_append, List.append_assoc]
  exact (Dts.strs (kn ks)).append (.cons (.str "o") (.cons (.str "p") (.cons (.str "i") (.cons (.str "j") (.cons w.dt .nil)))))
/-- an inlet that stands in the knots -/
theorem ref_inA {b : Addr} (f : LB H ka ia kv n ks y) (hb : H b = some (.dK [(.inr "a", .str "a")])) (ne : ka ≠ b) (hc : H c = some (.tup [.str "o", .str "p"])) : Refuses C B H ka kv (.ref b) (.ref c) (.str "a") := by
  obtain ⟨p1, p2, p3⟩ := f.pre
  have ha : ("a" : Str) ∈ kn ks := by
    rw [f.hkn]
    exact a_in f.g.pos
  refine ref_name (pre := kn ks ++ (["o", "p"] : List Str)) (post := []) (d := .str "a") (f.kin hb hc ne (by show (1 : Nat) ≠ 0; decide) (by show (1 : Nat) < 60; decide) (by show (2 : Nat) < 60; decide)) ?_ (fun rest => nameErr_bad (.inr (List.mem_append_left _ ha))) p1 p2 p3 (fun z hz => nomatch hz) (fun z e => by cases e; exact (f.names _ ha).2)
  rw [f.kV_keys, List.map_append, List.append_assoc]
  exact (Dts.strs (kn ks)).append (.cons (.str "o") (.cons (.str "p") (.cons (.str "a") .nil)))
/-- 2y ahead of 1x -/
theorem ref_2y {b : Addr} {u : V} (f : LB H ka ia kv n ks y) (hb : H b = some (.dK (insD y ++ [(.inr "1x", u)]))) (ne : ka ≠ b) (hc : H c = some (.tup [.str "o", .str "p", .str "2y"])) : Refuses C B H ka kv (.ref b) (.ref c) (.str "2y") := by
  obtain ⟨p1, p2, p3⟩ := f.pre
  refine ref_name (pre := kn ks ++ (["o", "p"] : List Str)) (post := ["i", "j", "1x"]) (d := .str "2y") (f.kin hb hc ne (by show (3 : Nat) ≠ 0; decide) (by show (3 : Nat) < 60; decide) (by show (3 : Nat) < 60; decide)) ?_ (fun rest => nameErr_bad (.inl (by decide +kernel))) p1 p2 p3 (fun z hz => ?_) (fun z e => by cases e; exact short_of (by decide +kernel) (by decide +kernel))
  · simp only [f.kV_keys, List.map_append, List.append_assoc]
    exact (Dts.strs (kn ks)).append (.cons (.str "o") (.cons (.str "p") (.cons (.str "2y") (.cons (.str "i") (.cons (.str "j") (.cons (.str "1x") .nil))))))
  · rcases List.mem_append.mp (show z ∈ (["i", "j"] : List Str) ++ (["1x"] : List Str) from hz) with h | h
    · exact short_ij z h
    · rw [List.mem_singleton.mp h]
      exact short_of (by decide +kernel) (by decide +kernel)
/-- k leads to o -/
theorem ref_ko {b : Addr} (f : LB H ka ia kv n ks y) (hb : H b = some (.dK [(.inr "i", .str "a"), (.inr "k", .str "o")])) (ne : ka ≠ b) (hc : H c = some (.tup [.str "o", .str "p"])) : Refuses C B H ka kv (.ref b) (.ref c) (.str "k") := by
  have hk0 : keysD (kd ks) = kn ks := kd_keys ks
  have ok := ok_net f.g (gi_isB f.g.pos f.hy) go_op
  have ha : ("a" : Str) ∈ kn ks := by
    rw [f.hkn]
    exact a_in f.g.pos
  have ho : ("o" : Str) ∉ kn ks := fun h => disj1 _ (kn_ab f.g h) "o" (by decide +kernel) rfl
  refine ref_in (ds := kd ks) (es := [("i", .str "a"), ("k", .str "o")]) (os := ["o", "p"]) (p := ("k", .str "o")) ⟨f.kin hb hc ne (by show (2 : Nat) ≠ 0; decide) (by show (2 : Nat) < 60; decide) (by show (2 : Nat) < 60; decide), f.dk, .cons (.str _) (.cons (.str _) .nil), ?_, ?_, fun p hp => ?_⟩ (rows_none (nd_ab f.g) ok.rows) ?_
  · rw [hk0]
    exact ok.names
  · rw [hk0]
    exact ok.nd
  · obtain ⟨q', hq', rfl⟩ := List.mem_map.mp hp
    have r := ok.rows q' hq'
    exact small_rows ⟨by have := r.front.1; omega, fun d hd => by have := (r.front.2 d hd).1; omega⟩ ⟨by have := r.turn.1; omega, fun d hd => by have := (r.turn.2 d hd).1; omega⟩
  · rw [hk0, List.find?_cons_of_neg, List.find?_cons_of_pos]
    · show (!decide (("o" : Str) ∈ kn ks)) = true
      rw [decide_eq_false ho]
      rfl
    · show ¬ (!decide (("a" : Str) ∈ kn ks)) = true
      rw [decide_eq_true ha]
      decide
end
end Bc

/-! two knots more: z, which y alone leads to in a front, and y, which nothing leads to -/
namespace Bc
open PySem L2 PyProof.Rows StX
def lz : Knots := [("z", ([], [["z", "o"]])), ("y", ([["z"]], [["o"]]))]
theorem kn_lone {ks : Knots} : kn (ks ++ lz) = kn ks ++ (["z", "y"] : List Str) := by
  show (ks ++ lz).map (·.1) = _
  rw [List.map_append]
  rfl
/-- names of the inlets of lone nets -/
structure LI (n : Nat) (is : Ins) : Prop where
  names : inn is = (["i", "j"] : List Str) ∨ inn is = (["i", "j", "k"] : List Str)
  leads : ∀ p ∈ is, p.2 ∈ ab.take n ++ (["z", "y"] : List Str)
theorem lone_ok : ∀ n, 1 ≤ n → n ≤ 4 → ∀ l, l = (["i", "j"] : List Str) ∨ l = (["i", "j", "k"] : List Str) → (ab.take n ++ (["z", "y"] : List Str) ++ (["o", "p"] : List Str) ++ l).Nodup ∧ ∀ z ∈ ab.take n ++ (["z", "y"] : List Str) ++ (["o", "p"] : List Str) ++ l, okName z = true ∧ z.length ≤ 1000 ∧ (PySem.reprText z).length ≤ 10 := by
  intro n h1 h4 l hl
  have : n = 1 ∨ n = 2 ∨ n = 3 ∨ n = 4 := by omega
  rcases hl with rfl | rfl <;> rcases this with rfl | rfl | rfl | rfl <;> decide +kernel
theorem lone_srt : ∀ n, 1 ≤ n → n ≤ 4 → srt (ab.take n ++ (["z", "y"] : List Str)) = ab.take n ++ (["y", "z"] : List Str) := by
  intro n h1 h4
  refine srt_of_sorted (List.Perm.append (List.Perm.refl _) (List.Perm.swap _ _ _)) ?_
  have : n = 1 ∨ n = 2 ∨ n = 3 ∨ n = 4 := by omega
  rcases this with rfl | rfl | rfl | rfl <;> decide +kernel
theorem OkRows.mono {S S' : Str → Bool} {r : Rows} (h : OkRows S r) (k : ∀ x, S x = true → S' x = true) : OkRows S' r :=
  ⟨⟨h.front.1, fun d hd => ⟨(h.front.2 d hd).1, fun x hx => k x ((h.front.2 d hd).2 x hx)⟩⟩, ⟨h.turn.1, fun d hd => ⟨(h.turn.2 d hd).1, fun x hx => k x ((h.turn.2 d hd).2 x hx)⟩⟩, h.pos⟩
section
variable {C B : Addr} {H : Hp} {a b c ka ia : Addr} {kv : List (Key × V)} {n : Nat} {ks : Knots} {y : Str} {is : Ins}
theorem ok_lone (f : LB H ka ia kv n ks y) (i : LI n is) : OkNet (ks ++ lz) is ["o", "p"] := by
  have ok := f.ok
  have n1 := f.g.pos
  have n4 := f.g.le
  obtain ⟨nd, nm⟩ := lone_ok n n1 n4 _ i.names
  have kl : ks.length = n := len_ab f.g
  have il : is.length = (inn is).length := (List.length_map _).symm
  have il2 : (inn is).length = 2 ∨ (inn is).length = 3 := by
    rcases i.names with h | h <;> rw [h]
    · exact .inl rfl
    · exact .inr rfl
  have ll : (ks ++ lz).length = n + 2 := by
    rw [List.length_append, kl]
    rfl
  refine ⟨?_, ?_, fun p hp => ?_, fun p hp => ?_, by omega, by omega, by omega, by omega, by show (2 : Nat) < 60; decide⟩
  · rw [kn_lone, f.hkn]
    exact fun z hz => ⟨(nm z hz).1, (nm z hz).2.1, tell_of (nm z hz).2.2 (by decide)⟩
  · rw [kn_lone, f.hkn]
    exact nd
  · have tz : ∀ x ∈ (["z", "y", "o", "p"] : List Str), decide (x ∈ kn (ks ++ lz) ++ (["o", "p"] : List Str)) = true := fun x hx => decide_eq_true (by
      rw [kn_lone, List.append_assoc]
      exact List.mem_append_right _ hx)
    rcases List.mem_append.mp hp with h | h
    · refine (ok.rows p h).mono fun x hx => decide_eq_true ?_
      have := of_decide_eq_true hx
      rw [kn_lone]
      rcases List.mem_append.mp this with h | h
      · exact List.mem_append_left _ (List.mem_append_left _ h)
      · exact List.mem_append_right _ h
    · have key : ∀ d : Drop, d.length ≤ 4 → (∀ x ∈ d, x ∈ (["z", "y", "o", "p"] : List Str)) → d.length ≤ 4 ∧ ∀ x ∈ d, decide (x ∈ kn (ks ++ lz) ++ (["o", "p"] : List Str)) = true := fun d h1 h2 => ⟨h1, fun x hx => tz x (h2 x hx)⟩
      have kz := key ["z", "o"] (by decide) (by decide +kernel)
      have ky := key ["z"] (by decide) (by decide +kernel)
      have ko := key ["o"] (by decide) (by decide +kernel)
      rcases List.mem_cons.mp h with h | h
      · subst h
        exact ⟨⟨by decide, fun d hd => nomatch hd⟩, ⟨by decide, fun d hd => by rw [List.mem_singleton.mp hd]; exact kz⟩, by decide⟩
      · have h := List.mem_singleton.mp h
        subst h
        exact ⟨⟨by decide, fun d hd => by rw [List.mem_singleton.mp hd]; exact ky⟩, ⟨by decide, fun d hd => by rw [List.mem_singleton.mp hd]; exact ko⟩, by decide⟩
  · rw [kn_lone, f.hkn]
    exact i.leads p hp
theorem in_lone {kw iw : List (Key × V)} (f : LB H ka ia kv n ks y) (i : LI n is) (ne : a ≠ b) (ha : H a = some (.dK kw)) (hkw : Dk H kw (kd (ks ++ lz))) (hb : H b = some (.dK iw)) (hiw : Dk H iw (id_ is)) : NetIn H a b kw iw (ks ++ lz) is := by
  have n1 := f.g.pos
  have n4 := f.g.le
  have o := ok_lone f i
  have nd := o.nd
  obtain ⟨nd1, nd2, _⟩ := List.nodup_append.mp nd
  have kl : ks.length = n := len_ab f.g
  refine ⟨ne, ha, hkw, (List.nodup_append.mp nd1).1, ?_, fun p hp => ?_, hb, hiw, nd2, o.infew, o.leads⟩
  · have := o.few
    omega
  · have r := (o.rows p hp).turn
    have key : ∀ l : Row, (∀ d ∈ l, d.length ≤ 4) → l.flatten.length ≤ 4 * l.length := by
      intro l
      induction l with
      | nil => intro _; exact Nat.le_refl _
      | cons d r ih =>
        intro h
        have h1 := h d List.mem_cons_self
        have h2 := ih fun e he => h e (List.mem_cons_of_mem _ he)
        rw [List.flatten_cons, List.length_append, List.length_cons]
        omega
    have := key _ fun d hd => (r.2 d hd).1
    have := r.1
    omega
/-- the drawn knots are closed, but for what comes in besides -/
theorem closed_ab (f : LB H ka ia kv n ks y) {more : List Str} (hm : ∀ x ∈ more, x = "y") (hs : ∀ p ∈ is, p.2 ∈ ab.take n ++ more) : Closed (ks ++ lz) is (ab.take n ++ more) := by
  refine ⟨hs, fun x r hr hx t ht => ?_⟩
  unfold succ at ht
  rw [List.mem_filter] at ht
  obtain ⟨h1, h2⟩ := ht
  have h2 := of_decide_eq_true h2
  rw [kn_lone, f.hkn] at h2
  have zy : ∀ w ∈ (["z", "y", "o", "p"] : List Str), w ∉ ab.take n := fun w hw hq => by
    have := List.mem_of_mem_take hq
    exact (show ∀ w ∈ (["z", "y", "o", "p"] : List Str), w ∉ ab by decide +kernel) w hw this
  have kno : ∀ w ∈ (["o", "p"] : List Str), w ∉ ab.take n ++ (["z", "y"] : List Str) := fun w hw hq => by
    rcases List.mem_append.mp hq with h | h
    · exact zy w (List.mem_cons_of_mem _ (List.mem_cons_of_mem _ hw)) h
    · exact (show ∀ w ∈ (["o", "p"] : List Str), w ∉ (["z", "y"] : List Str) by decide +kernel) w hw h
  rcases List.mem_append.mp hr with h | h
  · obtain ⟨d, hd, htd⟩ := List.mem_flatten.mp h1
    have hk := (f.g.rows _ h).ok2 d hd
    rcases List.mem_append.mp (hk.2 t htd) with h | h
    · exact List.mem_append_left _ h
    · exact absurd h2 (kno t h)
  · rcases List.mem_cons.mp h with h | h
    · cases h
      rcases List.mem_append.mp hx with h | h
      · exact absurd h (zy "z" List.mem_cons_self)
      · have := hm _ h
        exact absurd this (by decide +kernel)
    · cases List.mem_singleton.mp h
      have : t = "o" := by simpa using h1
      exact absurd h2 (kno t (by rw [this]; exact List.mem_cons_self))
/-- all drawn knots are met -/
theorem all_ab (f : LB H ka ia kv n ks y) (hi : ∃ x : Str, (x, ("a" : Str)) ∈ is) {zs : List Str} (hc : Closed (ks ++ lz) is zs) : ∀ x ∈ ab.take n, x ∈ zs := by
  obtain ⟨w, hw⟩ := hi
  have m := met_ok f.g (gi_isA f.g.pos) zs ⟨fun p hp => ?_, fun x r hr hx t ht => ?_⟩
  · rw [f.hkn] at m
    exact m
  · rw [List.mem_singleton.mp hp]
    exact hc.start (w, "a") hw
  · refine hc.next x r (List.mem_append_left _ hr) hx t ?_
    unfold succ at ht ⊢
    rw [List.mem_filter] at ht ⊢
    exact ⟨ht.1, decide_eq_true (by rw [kn_lone]; exact List.mem_append_left _ (of_decide_eq_true ht.2))⟩
theorem find_lone {zs : List Str} (f : LB H ka ia kv n ks y) (h : ∀ x ∈ ab.take n, x ∈ zs) : (srt (kn (ks ++ lz))).find? (fun x => !decide (x ∈ zs)) = (["y", "z"] : List Str).find? (fun x => !decide (x ∈ zs)) := by
  rw [kn_lone, f.hkn, lone_srt n f.g.pos f.g.le, List.find?_append]
  have : (ab.take n).find? (fun x => !decide (x ∈ zs)) = none := by
    rw [List.find?_eq_none]
    intro x hx
    rw [decide_eq_true (h x hx)]
    decide
  rw [this]
  rfl
theorem li_0 (f : LB H ka ia kv n ks y) : LI n (is0 y) := ⟨.inl rfl, fun p hp => List.mem_append_left _ (by
  rcases List.mem_cons.mp hp with h | h
  · rw [h]; exact a_in f.g.pos
  · rw [List.mem_singleton.mp h]; exact f.hy)⟩
def isY (y : Str) : Ins := [("i", "a"), ("j", y), ("k", "y")]
theorem li_Y (f : LB H ka ia kv n ks y) : LI n (isY y) := ⟨.inr rfl, fun p hp => by
  rcases List.mem_cons.mp hp with h | h
  · rw [h]; exact List.mem_append_left _ (a_in f.g.pos)
  · rcases List.mem_cons.mp h with h | h
    · rw [h]; exact List.mem_append_left _ f.hy
    · rw [List.mem_singleton.mp h]; exact List.mem_append_right _ (List.mem_cons_of_mem _ List.mem_cons_self)⟩
def isZ : Ins := [("i", "a"), ("j", "y"), ("k", "z")]
theorem li_Z (f : LB H ka ia kv n ks y) : LI n isZ := ⟨.inr rfl, fun p hp => by
  rcases List.mem_cons.mp hp with h | h
  · rw [h]; exact List.mem_append_left _ (a_in f.g.pos)
  · rcases List.mem_cons.mp h with h | h
    · rw [h]; exact List.mem_append_right _ (List.mem_cons_of_mem _ List.mem_cons_self)
    · rw [List.mem_singleton.mp h]; exact List.mem_append_right _ List.mem_cons_self⟩
theorem not_ab {n : Nat} {x : Str} (h : x ∈ (["z", "y"] : List Str)) : x ∉ ab.take n := fun q => (show ∀ w ∈ (["z", "y"] : List Str), w ∉ ab by decide +kernel) x h (List.mem_of_mem_take q)
/-- y is not met -/
theorem ref_loneY {kw : List (Key × V)} (f : LB H ka ia kv n ks y) (ne : a ≠ ia) (ha : H a = some (.dK kw)) (hkw : Dk H kw (kd (ks ++ lz))) (hc : H c = some (.tup [.str "o", .str "p"])) : Refuses C B H a kw (.ref ia) (.ref c) (.str "y") :=
  ref_met (os := ["o", "p"]) (in_lone f (li_0 f) ne ha hkw f.hi dk_is0) (.inr hc) (ok_lone f (li_0 f)) fun zs hcl hr => by
    rw [find_lone f (all_ab f ⟨"i", List.mem_cons_self⟩ hcl), List.find?_cons_of_pos]
    have : ("y" : Str) ∉ zs := fun m => by
      have q := hr _ m _ (closed_ab (more := []) f (fun _ h => nomatch h) fun p hp => by
        rw [List.append_nil]
        rcases List.mem_cons.mp hp with h | h
        · rw [h]; exact a_in f.g.pos
        · rw [List.mem_singleton.mp h]; exact f.hy)
      rw [List.append_nil] at q
      exact not_ab (List.mem_cons_of_mem _ List.mem_cons_self) q
    rw [decide_eq_false this]
    rfl
/-- z is not met -/
theorem ref_loneZ {kw : List (Key × V)} (f : LB H ka ia kv n ks y) (ne : a ≠ b) (ha : H a = some (.dK kw)) (hkw : Dk H kw (kd (ks ++ lz))) (hb : H b = some (.dK (insD y ++ [(.inr "k", .str "y")]))) (hc : H c = some (.tup [.str "o", .str "p"])) : Refuses C B H a kw (.ref b) (.ref c) (.str "z") :=
  ref_met (is := isY y) (os := ["o", "p"]) (in_lone f (li_Y f) ne ha hkw hb (.cons (.str _) (.cons (.str _) (.cons (.str _) .nil)))) (.inr hc) (ok_lone f (li_Y f)) fun zs hcl hr => by
    have hy : ("y" : Str) ∈ zs := hcl.start ("k", "y") (List.mem_cons_of_mem _ (List.mem_cons_of_mem _ List.mem_cons_self))
    have hz : ("z" : Str) ∉ zs := fun m => by
      have q := hr _ m _ (closed_ab (more := ["y"]) f (fun _ h => List.mem_singleton.mp h) fun p hp => by
        rcases List.mem_cons.mp hp with h | h
        · rw [h]; exact List.mem_append_left _ (a_in f.g.pos)
        · rcases List.mem_cons.mp h with h | h
          · rw [h]; exact List.mem_append_left _ f.hy
          · rw [List.mem_singleton.mp h]; exact List.mem_append_right _ List.mem_cons_self)
      rcases List.mem_append.mp q with h | h
      · exact not_ab List.mem_cons_self h
      · exact absurd (List.mem_singleton.mp h) (by decide +kernel)
    rw [find_lone f (all_ab f ⟨"i", List.mem_cons_self⟩ hcl), List.find?_cons_of_neg, List.find?_cons_of_pos]
    · rw [decide_eq_false hz]
      rfl
    · rw [decide_eq_true hy]
      decide
theorem met_lone (f : LB H ka ia kv n ks y) : Met (ks ++ lz) isZ := fun zs hcl x hx => by
  rw [kn_lone, f.hkn] at hx
  rcases List.mem_append.mp hx with h | h
  · exact all_ab f ⟨"i", List.mem_cons_self⟩ hcl x h
  · rcases List.mem_cons.mp h with h | h
    · rw [h]; exact hcl.start ("k", "z") (List.mem_cons_of_mem _ (List.mem_cons_of_mem _ List.mem_cons_self))
    · rw [List.mem_singleton.mp h]; exact hcl.start ("j", "y") (List.mem_cons_of_mem _ List.mem_cons_self)
/-- Net(..) of any whole net -/
theorem er_netG {σ : L2.St} {E : XK} {t : TA} {ks : Knots} {is : Ins} {os : List Str} (ok : OkNet ks is os) (met : Met ks is)
    (h : ∀ Q : List V → Hp → Prop, (∀ a b c kv iv H', Same H H' → NetIn H' a b kv iv ks is → (H' c = some (.lst (os.map V.str)) ∨ H' c = some (.tup (os.map V.str))) → Q [.ref a, .ref b, .ref c] H') → t σ H Q)
    (Q : VK) (q : ∀ x H', H x = none → Same H H' → NetNew H H' C x (srtD (kd ks)) (srtD (id_ is)) (srt os) → Q (.ref x) H') : tMake C (spInit C B) [] E t σ H Q :=
  h _ fun a b c kv iv H1 e1 N hc x dx hx hdx ndx => ⟨H1, x, dx, a, .ref b, .ref c, kv, rfl, (same_upd (o := HO.own x) hdx).trans (same_upd (by rw [upd_ne (Ne.symm ndx)]; exact hx)), hx, upd_same, N.ha, .inr (end_ok N hc ok met fun H' e' na => ⟨rfl, q x H' (e1.free hx) (e1.trans e') (na.back e1)⟩)⟩
theorem srtD_len (ds : List (Str × PyData)) : (srtD ds).length = ds.length := by
  unfold srtD
  rw [List.length_map, (srt_perm _).length_eq, List.length_map]
end
end Bc

/-! what the law's other expressions give -/
namespace Bc
open PySem L2 PyProof.Rows StX
section
variable {X : Cx}
abbrev rRepS : R2 := fun x y H Q => ∃ (z : Str) (k : Int), x = .str z ∧ y = .int k ∧ 2 ≤ k ∧ k ≤ 1000 ∧ 1 ≤ z.length ∧ z.length ≤ 1000 ∧ (⟨(List.replicate k.toNat z.cps).foldl (· ++ ·) #[]⟩ : Str).length ≤ 100000 ∧ Q (.str ⟨(List.replicate k.toNat z.cps).foldl (· ++ ·) #[]⟩) H
theorem op_repS : OpR X (binaryOp .Mult) rRepS := by
  intro pins s σ H x y v u Q I rx ry h
  obtain ⟨z, k, rfl, rfl, h1, h2, h3, h4, h5, q⟩ := h
  obtain ⟨t, rfl⟩ := rx
  obtain ⟨t', rfl⟩ := ry
  have n1 : ¬ k < 1 := by omega
  have nb : (k == 1 || z.length == 0) = false := by
    have e1 : (k == 1) = false := by simpa using (by omega : ¬ k = 1)
    have e2 : (z.length == 0) = false := by simpa using (by omega : ¬ z.length = 0)
    rw [e1, e2]
    rfl
  refine PySem.P.mul_str ?_ (fun _ _ => ?_) (fun _ _ => ?_) ?_
  · have e1 : ¬ k < -(2 ^ 63 : Int) := by omega
    have e2 : ¬ k ≥ 2 ^ 63 := by omega
    rw [decide_eq_false e1, decide_eq_false e2]
    rfl
  · have : (2 ^ 63 - 1) / k ≥ (2 ^ 63 - 1) / 1000 := by
      refine Int.le_ediv_of_mul_le (by omega) ?_
      have : (2 ^ 63 - 1) / 1000 * k ≤ (2 ^ 63 - 1) / 1000 * 1000 := Int.mul_le_mul_of_nonneg_left h2 (by decide)
      omega
    omega
  · unfold Builtin.Str.tooLong
    have : z.length * k.toNat ≤ 1000 * 1000 := Nat.mul_le_mul h4 (by omega)
    exact decide_eq_false (by
      have := Nat.lt_of_le_of_lt this (by decide : 1000 * 1000 < sizeLine)
      omega)
  · rw [if_neg n1, if_neg (by rw [nb]; exact Bool.false_ne_true)]
    exact ⟨sz h5, ⟨.str _, H, I.tok _, ⟨_, rfl⟩, q⟩⟩
end
section
variable {K : PySem.W.Frag} {σ : L2.St} {H : Hp} {ta tb te tx tv : TE} {t : TA} {D : Ends} {u : TS} {C B : Addr}
theorem evd_L {zs : List Str} (h : EvL te σ H (zs.map V.str)) : EvD te σ H (.list (zs.map PyData.str)) := fun Q q => h _ fun p H1 _ e1 hx => q _ _ e1 (.lst hx (Dts.strs zs))
theorem el_listL {a : Addr} {xs : List V} (ha : Ev ta σ H (.ref a)) (h : H a = some (.lst xs)) : EvL (tCB (fun xs H Q => ∃ p ys, xs = [.ref p] ∧ (SqL K H p ys ∨ SqT K H p ys) ∧ ∀ l, H l = none → Q (.ref l) (upd H l (.lst ys))) (tCons ta tNil)) σ H xs := fun Q q =>
  ha _ fun H1 e1 => ⟨a, xs, rfl, .inl (SqL.of (e1 _ _ h)), fun l hl => q l _ (e1.free hl) (e1.trans (same_upd hl)) upd_same⟩
theorem evd_listT {ds : List PyData} (h : EvD te σ H (.tuple ds)) : EvD (tCB (fun xs H Q => ∃ p ys, xs = [.ref p] ∧ (SqL K H p ys ∨ SqT K H p ys) ∧ ∀ l, H l = none → Q (.ref l) (upd H l (.lst ys))) (tCons te tNil)) σ H (.list ds) := fun Q q =>
  h _ fun v H1 e1 hd => by
    cases hd with
    | @tup a xs _ ha hx => exact ⟨a, xs, rfl, .inr (SqT.of ha), fun l hl => q _ _ (e1.trans (same_upd hl)) (.lst upd_same (hx.go (same_upd hl)))⟩
theorem dts_rep {H : Hp} {xs : List V} {ds : List PyData} (h : Dts H xs ds) : ∀ n, Dts H (List.replicate n xs).flatten (List.replicate n ds).flatten
  | 0 => .nil
  | n + 1 => h.append (dts_rep h n)
theorem evd_rep {ds : List PyData} {k : Nat} (h : EvD te σ H (.tuple ds)) (h1 : 2 ≤ k) (h2 : k ≤ 1000) (h3 : 1 ≤ ds.length) (h4 : ds.length ≤ 1000) : EvD (tOp (rRepT K) te (tC (.int (k : Nat)))) σ H (.tuple (List.replicate k ds).flatten) := fun Q q =>
  h _ fun v H1 e1 hd => by
    cases hd with
    | @tup a xs _ ha hx =>
      have hl := hx.length
      refine ⟨a, (k : Nat), xs, rfl, rfl, SqT.of ha, fun e => by rw [e] at hl; have : (0 : Nat) = ds.length := hl; omega, by omega, by omega, by omega, fun p hp => ?_⟩
      have e : ((k : Nat) : Int).toNat = k := Int.toNat_natCast k
      rw [e]
      exact q _ _ (e1.trans (same_upd hp)) (.tup upd_same ((dts_rep hx k).go (same_upd hp)))
theorem ev_neVV {a b : Addr} {k1 k2 : List (Key × V)} {d1 d2 : List (Str × PyData)} (ha : Ev ta σ H (.ref a)) (hb : ∀ H', Same H H' → Ev tb σ H' (.ref b)) (h1 : H a = some (.dK k1)) (h2 : H b = some (.dK k2)) (g1 : Dk H k1 d1) (g2 : Dk H k2 d2) (s1 : ∀ p ∈ d1, SeqAt.shaped p.2 = true) (s2 : ∀ p ∈ d2, SeqAt.shaped p.2 = true) :
    Ev (tOp rNeDK ta tb) σ H (.bl (!eqDK d1 d2)) := fun Q q => ha _ fun H1 e1 => hb H1 e1 _ fun H2 e2 => ⟨a, b, k1, k2, d1, d2, rfl, rfl, (e1.trans e2) _ _ h1, (e1.trans e2) _ _ h2, g1.go (e1.trans e2), g2.go (e1.trans e2), s1, s2, q H2 (e1.trans e2)⟩
/-- net == Net(..), net != Net(..) -/
theorem er_eqN2 {E : XK} {k1 i1 k2 i2 : List (Str × PyData)} {o1 o2 : List Str} {x : Addr} (ha : Ev ta σ H (.ref x)) (hb : ∀ H', Same H H' → ∀ Q : VK, (∀ y H2, Same H' H2 → NetAt H2 C y k2 i2 o2 → Q (.ref y) H2) → tb σ H' Q) (n1 : NetAt H C x k1 i1 o1) (s1 : Shp k1 i1 o1) (s2 : Shp k2 i2 o2) :
    Ev (tOp (rEqO K C (spEq C) E) ta tb) σ H (.bl (eqNet k1 i1 o1 k2 i2 o2)) := fun Q q => ha _ fun H1 e1 => hb H1 e1 _ fun y H2 e2 n2 => by
  have n1' := n1.go (e1.trans e2)
  obtain ⟨dx, fs, hx⟩ := n1'.ins
  obtain ⟨dy, gs, hy⟩ := n2.ins
  exact ⟨x, dx, fs, rfl, hx, .ins hy, .inl ⟨x, y, k1, i1, k2, i2, o1, o2, rfl, n1', n2, s1, s2, fun H' e' => ⟨_, rfl, q H' (e1.trans (e2.trans e'))⟩⟩⟩
theorem er_neN2 {E : XK} {k1 i1 k2 i2 : List (Str × PyData)} {o1 o2 : List Str} {x : Addr} (ha : Ev ta σ H (.ref x)) (hb : ∀ H', Same H H' → ∀ Q : VK, (∀ y H2, Same H' H2 → NetAt H2 C y k2 i2 o2 → Q (.ref y) H2) → tb σ H' Q) (n1 : NetAt H C x k1 i1 o1) (s1 : Shp k1 i1 o1) (s2 : Shp k2 i2 o2) :
    Ev (tOp (rNeO C (spEq C) E) ta tb) σ H (.bl (!eqNet k1 i1 o1 k2 i2 o2)) := fun Q q => ha _ fun H1 e1 => hb H1 e1 _ fun y H2 e2 n2 => by
  have n1' := n1.go (e1.trans e2)
  obtain ⟨dx, fs, hx⟩ := n1'.ins
  obtain ⟨dy, gs, hy⟩ := n2.ins
  exact ⟨x, y, dx, dy, fs, gs, rfl, rfl, hx, hy, .inl ⟨x, y, k1, i1, k2, i2, o1, o2, rfl, n1', n2, s1, s2, fun H' e' => ⟨_, rfl, q H' (e1.trans (e2.trans e'))⟩⟩⟩
theorem ev_notInN {E : XK} {k1 i1 : List (Str × PyData)} {o1 : List Str} {x : Addr} {z : Str} (ha : Ev ta σ H (.str z)) (hb : ∀ H', Same H H' → Ev tb σ H' (.ref x)) (n1 : NetAt H C x k1 i1 o1) : Ev (tOp (rInO C (spHas C) E true) ta tb) σ H (.bl (!((k1.lookup z).isSome || decide (z ∈ o1)))) := fun Q q =>
  ha _ fun H1 e1 => hb H1 e1 _ fun H2 e2 => by
  have n1' := n1.go (e1.trans e2)
  obtain ⟨dx, fs, hx⟩ := n1'.ins
  exact ⟨x, dx, fs, rfl, hx, x, .inr z, k1, i1, o1, rfl, n1', fun H' e' => ⟨_, rfl, q H' (e1.trans (e2.trans e'))⟩⟩
theorem ev_lenR {E : XK} {m : Nat} (ha : ∀ Q : VK, (∀ x k1 i1 o1 H', Same H H' → NetAt H' C x k1 i1 o1 → k1.length = m → Q (.ref x) H') → ta σ H Q) (hl : m ≤ 1000) : Ev (tCB (rLenO C (spLen C) E) (tCons ta tNil)) σ H (.int (m : Nat)) := fun Q q => ha _ fun x k1 i1 o1 H1 e1 n1' hm => by
  obtain ⟨dx, fs, hx⟩ := n1'.ins
  subst hm
  exact ⟨x, dx, fs, rfl, hx, x, k1, i1, o1, rfl, n1', fun H' e' => ⟨_, rfl, by omega, q H' (e1.trans e')⟩⟩
/-- _law_refused(..) -/
theorem ev_ref {E : XK} (h : ∀ Q : List V → Hp → Prop, (∀ a kv vi vo v H', Same H H' → Refuses C B H' a kv vi vo v → scal v v = true → Q [.ref a, vi, vo, v] H') → t σ H Q) : Ev (tCall (spRefused C B) [] E t) σ H (.bl true) := fun Q q =>
  h _ fun a kv vi vo v H1 e1 r s => ⟨a, vi, vo, kv, v, v, rfl, r, s, fun H' e => by
    rw [decide_eq_true rfl]
    exact q H' (e1.trans e)⟩
/-- dict(list(d.items()) + [(x, v)]) -/
theorem ek_cat1 {a : Addr} {kvs : List (Key × V)} {k : Key} {d : PyData} (ha : Ev ta σ H (.ref a)) (h : H a = some (.dK kvs)) (hx : ∀ H', Same H H' → Ev tx σ H' (kV k)) (hv : ∀ H', Same H H' → EvD tv σ H' d) (hl : kvs.length ≤ 1000) (Q : VK)
    (q : ∀ p v H', H p = none → Same H H' → Dt H' v d → H' p = some (.dK (mergeK [] (kvs ++ [(k, v)]))) → Q (.ref p) H') :
    tCB (rDictP K) (tCons (tOp rCat (LiI.tListItems ta) (tLst (tCons (tTup (tCons tx (tCons tv tNil))) tNil))) tNil) σ H Q :=
  el_items ha h _ fun p H1 ts hp e1 hpl hw => hx H1 e1 _ fun H2 e2 => hv H2 (e1.trans e2) _ fun v H3 e3 hd => ⟨by show 2 ≤ sizeLine; decide, fun t ht => ⟨by show 1 ≤ sizeLine; decide, fun l hl' => by
    have e23 := e2.trans e3
    have e34 := (same_upd (o := HO.tup [kV k, v]) ht).trans (same_upd (o := HO.lst [V.ref t]) hl')
    have htl := hw.length
    refine ⟨p, l, ts.map V.ref, [.ref t], rfl, rfl, e34 _ _ (e23 _ _ hpl), upd_same, by rw [List.length_map, htl]; exact sz (by show kvs.length + 1 ≤ _; omega), fun m hm => ?_⟩
    have e45 := same_upd (o := HO.lst (ts.map V.ref ++ [V.ref t])) hm
    refine ⟨m, ts ++ [t], kvs ++ [(k, v)], rfl, SqL.of (by rw [upd_same, List.map_append]; rfl), paired_append (L2.Paired.mapP hw fun t kv h => SqT.of (e45 _ _ (e34 _ _ (e23 _ _ h)))) (.cons (SqT.of (e45 _ _ (same_upd hl' _ _ upd_same))) .nil), fun d' hd' => ?_⟩
    have eall := e1.trans (e23.trans (e34.trans e45))
    exact q d' v _ (eall.free hd') (eall.trans (same_upd hd')) (hd.go ((e34.trans e45).trans (same_upd hd'))) upd_same⟩⟩
/-- dict(list(d.items()) + [(x, v), (y, w)]) -/
theorem ek_cat2 {tx2 tv2 : TE} {a : Addr} {kvs : List (Key × V)} {k k2 : Key} {d d2 : PyData} (ha : Ev ta σ H (.ref a)) (h : H a = some (.dK kvs)) (hx : ∀ H', Same H H' → Ev tx σ H' (kV k)) (hv : ∀ H', Same H H' → EvD tv σ H' d) (hx2 : ∀ H', Same H H' → Ev tx2 σ H' (kV k2)) (hv2 : ∀ H', Same H H' → EvD tv2 σ H' d2) (hl : kvs.length ≤ 1000) (Q : VK)
    (q : ∀ p v v2 H', H p = none → Same H H' → Dt H' v d → Dt H' v2 d2 → H' p = some (.dK (mergeK [] (kvs ++ [(k, v), (k2, v2)]))) → Q (.ref p) H') :
    tCB (rDictP K) (tCons (tOp rCat (LiI.tListItems ta) (tLst (tCons (tTup (tCons tx (tCons tv tNil))) (tCons (tTup (tCons tx2 (tCons tv2 tNil))) tNil)))) tNil) σ H Q :=
  el_items ha h _ fun p H1 ts hp e1 hpl hw => hx H1 e1 _ fun H2 e2 => hv H2 (e1.trans e2) _ fun v H3 e3 hd => ⟨by show 2 ≤ sizeLine; decide, fun t ht => by
    have s3 := (e1.trans (e2.trans e3)).trans (same_upd (o := HO.tup [kV k, v]) ht)
    refine hx2 _ s3 _ fun H4 e4 => hv2 H4 (s3.trans e4) _ fun v2 H5 e5 hd2 => ⟨by show 2 ≤ sizeLine; decide, fun t2 ht2 => ⟨by show 2 ≤ sizeLine; decide, fun l hl' => ?_⟩⟩
    have e23 := e2.trans e3
    have e34 := (same_upd (o := HO.tup [kV k, v]) ht).trans ((e4.trans e5).trans ((same_upd (o := HO.tup [kV k2, v2]) ht2).trans (same_upd (o := HO.lst [V.ref t, V.ref t2]) hl')))
    have htl := hw.length
    refine ⟨p, l, ts.map V.ref, [.ref t, .ref t2], rfl, rfl, e34 _ _ (e23 _ _ hpl), upd_same, by rw [List.length_map, htl]; exact sz (by show kvs.length + 2 ≤ _; omega), fun m hm => ?_⟩
    have e45 := same_upd (o := HO.lst (ts.map V.ref ++ [V.ref t, V.ref t2])) hm
    have q1 := e45 _ _ (same_upd (o := HO.lst [V.ref t, V.ref t2]) hl' _ _ (same_upd (o := HO.tup [kV k2, v2]) ht2 _ _ ((e4.trans e5) _ _ (upd_same (a := t) (o := HO.tup [kV k, v])))))
    have q2 := e45 _ _ (same_upd (o := HO.lst [V.ref t, V.ref t2]) hl' _ _ (upd_same (a := t2) (o := HO.tup [kV k2, v2])))
    refine ⟨m, ts ++ [t, t2], kvs ++ [(k, v), (k2, v2)], rfl, SqL.of (by rw [upd_same, List.map_append]; rfl), paired_append (L2.Paired.mapP hw fun t kv h => SqT.of (e45 _ _ (e34 _ _ (e23 _ _ h)))) (.cons (SqT.of q1) (.cons (SqT.of q2) .nil)), fun d' hd' => ?_⟩
    have eall := e1.trans (e23.trans (e34.trans e45))
    exact q d' v v2 _ (eall.free hd') (eall.trans (same_upd hd')) (hd.go ((e34.trans e45).trans (same_upd hd'))) (hd2.go ((same_upd ht2).trans ((same_upd hl').trans (e45.trans (same_upd hd'))))) upd_same⟩
/-! ### lists of pairs that are made -/
def EvPr (te : TE) (σ : L2.St) (H : Hp) (ds : List (Str × PyData)) : Prop := ∀ Q : VK, (∀ p H' ts kvs, H p = none → Same H H' → H' p = some (.lst (ts.map V.ref)) → Paired (fun t kv => H' t = some (.tup [kV kv.1, kv.2])) ts kvs → Dk H' kvs ds → Q (.ref p) H') → te σ H Q
theorem pr_of {H : Hp} : ∀ {ys : List V} {fs : List (Str × PyData)}, ys.length = fs.length → (∀ (i : Nat) (y : V) (p : Str × PyData), ys[i]? = some y → fs[i]? = some p → ∃ t v, y = .ref t ∧ H t = some (.tup [.str p.1, v]) ∧ Dt H v p.2) →
    ∃ ts kvs, ys = ts.map V.ref ∧ Paired (fun t kv => H t = some (.tup [kV kv.1, kv.2])) ts kvs ∧ Dk H kvs fs
  | [], [], _, _ => ⟨[], [], rfl, .nil, .nil⟩
  | y :: ys, p :: fs, hl, h => by
    obtain ⟨t, v, rfl, ht, hd⟩ := h 0 y p rfl rfl
    obtain ⟨ts, kvs, rfl, hp, hk⟩ := pr_of (by simpa using hl) fun i y' p' h1 h2 => h (i + 1) y' p' (by simpa using h1) (by simpa using h2)
    exact ⟨t :: ts, (.inr p.1, v) :: kvs, rfl, .cons ht hp, .cons hd hk⟩
  | [], _ :: _, hl, _ => absurd hl (by simp)
  | _ :: _, [], hl, _ => absurd hl (by simp)
theorem tsm_hide {H : Hp} {D : Addr} {acc : List V} (h : H D = some (.lst acc)) : Tsm H (hide H D) := fun b xs q => by
  rw [hide_ne (fun e => by rw [e, h] at q; cases q)]
  exact q
theorem lc_pr {J : It} {n : Nat} {G : Hp → Prop} {Y : Nat → Hp → V → Hp → Prop} (w : Walk J n G Y) {tk : TE} {j : Nat} {vs : List Nat} {σ : L2.St} {H1 : Hp} {D : Addr} {Qd : Hp → Prop} (f : Nat → Str × PyData)
    (hts : ∀ i, i < n → ∀ (H H' : Hp) v, Tsm H H' → Dt H v (f i).2 → Dt H' v (f i).2) (hD : H1 D = none) (hn : n < 100000) (hG : ∀ H, Same H1 H → G H) (hw : ∀ x, wipe ((wipe σ vs).set j (some x)) vs = wipe σ vs)
    (hs : ∀ i x H H', i < n → Same H1 H → Y i H x H' → Same H H' ∧ Ev tk ((wipe σ vs).set j (some x)) H' (.str (f i).1) ∧ ∀ H2, Same H' H2 → EvD tv ((wipe σ vs).set j (some x)) H2 (f i).2)
    (hd : ∀ ts kvs H, H D = some (.lst (ts.map V.ref)) → Paired (fun t kv => H t = some (.tup [kV kv.1, kv.2])) ts kvs → Dk H kvs ((List.range n).map f) → Same H1 H → Qd H) : ∃ W : Nat → Nat → Hp → Prop, (∃ m, W 0 m (upd H1 D (.lst []))) ∧ ∀ i m H, W i m H →
      (J.stop i H ∧ Qd H) ∨ (J.go i H ∧ ∃ Nx : Hp → Prop, (∀ H', Nx H' → ∃ m', m' < m ∧ W (i + 1) m' H') ∧ ∀ x H', J.yld i H x H' → gName j x (wipe σ vs) H' fun σ2 H2 => wipe σ2 vs = wipe σ vs ∧ tYes σ2 H2 fun b H3 => if b = true then (tTup (tCons tk (tCons tv tNil))) σ2 H3 fun y H4 => ∃ acc, H4 D = some (.lst acc) ∧ acc.length < sizeLine ∧ Nx (upd H4 D (.lst (acc ++ [y]))) else Nx H3) := by
  refine lc_nameD w (fun i y H => i < n → ∃ t v, y = .ref t ∧ H t = some (.tup [.str (f i).1, v]) ∧ Dt H v (f i).2) (fun i y H H' e h hi => ?_) hD hn hG hw (fun i x H2 H3 hi e2 hacc y => ?_) (fun ys H2 hyl hr e2 hy => ?_)
  · obtain ⟨t, v, h1, h2, h3⟩ := h hi
    exact ⟨t, v, h1, e _ _ h2, h3.go e⟩
  · obtain ⟨e3, hk, hv⟩ := hs i x H2 H3 hi e2 y
    obtain ⟨acc, hacc⟩ := hacc
    refine ⟨e3, fun Q2 q2 => hk _ fun H4 e4 => hv H4 e4 _ fun v H5 e5 hdv => ⟨by show 2 ≤ sizeLine; decide, fun p hp => q2 _ _ ((e4.trans e5).trans (same_upd hp)) fun _ => ⟨p, v, rfl, ?_, ?_⟩⟩⟩
    · have h5 := (e3.trans (e4.trans e5)) _ _ hacc
      rw [hide_ne (fun e => by rw [e, h5] at hp; cases hp), upd_same]
    · have h6 := same_upd (o := HO.tup [V.str (f i).1, v]) hp _ _ ((e3.trans (e4.trans e5)) _ _ hacc)
      exact hts i hi _ _ v (tsm_hide h6) (hdv.go (same_upd hp))
  · obtain ⟨ts, kvs, rfl, hp, hk⟩ := pr_of (H := hide H2 D) (ys := ys) (fs := (List.range n).map f) (by rw [hyl, List.length_map, List.length_range]) fun i y p h1 h2 => by
      have hi : i < n := by
        have := (List.getElem?_eq_some_iff.mp h1).1
        omega
      rw [List.getElem?_map, List.getElem?_range hi] at h2
      cases h2
      exact hr i y h1 hi
    exact hd ts kvs H2 hy (L2.Paired.mapP hp fun t kv h => hide_same _ _ h) (hk.go hide_same) e2
/-- dict(pairs), no key twice -/
def EvKD (te : TE) (σ : L2.St) (H : Hp) (ds : List (Str × PyData)) : Prop := ∀ Q : VK, (∀ p H' kvs, H p = none → Same H H' → H' p = some (.dK kvs) → Dk H' kvs ds → Q (.ref p) H') → te σ H Q
theorem ekd_dict {ds : List (Str × PyData)} (h : EvPr te σ H ds) (hn : (keysD ds).Nodup) : EvKD (tCB (rDictP K) (tCons te tNil)) σ H ds := fun Q q => h _ fun p H1 ts kvs hp e1 hx hw hk => ⟨p, ts, kvs, rfl, SqL.of hx, L2.Paired.mapP hw fun _ _ h => SqT.of h, fun p' hp' => q p' _ kvs (e1.free hp') (e1.trans (same_upd hp')) (by
  rw [upd_same, merge_nd0]
  show (kvs.map (·.1)).Nodup
  rw [hk.keys]
  exact List.pairwise_map.mpr (List.Pairwise.imp (fun ne e => ne (Sum.inr.inj e)) hn)) (hk.go (same_upd hp'))⟩
theorem range_mapG {α β : Type} (l : List α) (g : α → β) (f : Nat → β) (h : ∀ i x, l[i]? = some x → f i = g x) : (List.range l.length).map f = l.map g := by
  refine List.ext_getElem? fun i => ?_
  rw [List.getElem?_map, List.getElem?_map]
  by_cases hi : i < l.length
  · rw [List.getElem?_range hi, List.getElem?_eq_getElem hi]
    exact congrArg some (h i _ (List.getElem?_eq_getElem hi))
  · rw [List.getElem?_eq_none_iff.mpr (by rw [List.length_range]; omega), List.getElem?_eq_none_iff.mpr (by omega)]
    rfl
/-- [(x, v) for x in names] -/
theorem evp_names {tk : TE} {tl : TE} {zs : List Str} {j : Nat} (g : Str → PyData) (h : ∀ Q : VK, (∀ p H', Same H H' → H' p = some (.lst (zs.map V.str)) → Q (.ref p) H') → tl σ H Q) (hl : zs.length < 100000) (hts : ∀ z ∈ zs, ∀ (H H' : Hp) v, Tsm H H' → Dt H v (g z) → Dt H' v (g z)) (hw : ∀ x, wipe ((wipe σ [j]).set j (some x)) [j] = wipe σ [j])
    (hk : ∀ z H', Same H H' → Ev tk ((wipe σ [j]).set j (some (.str z))) H' (.str z)) (hv : ∀ z ∈ zs, ∀ H', Same H H' → EvD tv ((wipe σ [j]).set j (some (.str z))) H' (g z)) :
    EvPr (tLc (iList K tl) (gName j) tYes (tTup (tCons tk (tCons tv tNil))) [j]) σ H (zs.map fun z => (z, g z)) := fun Q q =>
  h _ fun a H1 e1 hx => ⟨a, rfl, ⟨_, SqL.of hx⟩, fun Dd hD => by
    have hz : ∀ i, i < (zs.map V.str).length → ∃ z, zs[i]? = some z ∧ (zs[i]?).getD "" = z := fun i hi => by
      rw [List.length_map] at hi
      exact ⟨zs[i], List.getElem?_eq_getElem hi, by rw [List.getElem?_eq_getElem hi]; rfl⟩
    refine lc_pr (walk_list (K := K) (a := a) (xs := zs.map V.str)) (fun i => ((zs[i]?).getD "", g ((zs[i]?).getD ""))) (fun i hi H H' v e hd => ?_) hD (by rw [List.length_map]; exact hl) (fun H2 e2 => SqL.of (e2 _ _ hx)) hw (fun i x H2 H3 hi e2 y => ?_) (fun ts kvs H2 h2 hp hk2 e2 => ?_)
    · obtain ⟨z, h1, h2⟩ := hz i hi
      rw [h2] at hd ⊢
      exact hts z (List.mem_of_getElem? h1) H H' v e hd
    · obtain ⟨rfl, hy⟩ := y
      obtain ⟨z, h1, h2⟩ := hz i hi
      rw [List.getElem?_map, h1] at hy
      cases hy
      rw [h2]
      exact ⟨Same.refl _, hk z _ (e1.trans e2), fun H4 e4 => hv z (List.mem_of_getElem? h1) _ (e1.trans (e2.trans e4))⟩
    · rw [List.length_map, range_mapG zs (fun z => (z, g z)) _ (fun i x hi => by rw [hi]; rfl)] at hk2
      exact q Dd H2 ts kvs (e1.free hD) (e1.trans e2) h2 hp hk2⟩
/-- [(x, v) for x in reversed(names)] -/
theorem evp_rev {tk : TE} {tl : TE} {zs : List Str} {j : Nat} (g : Str → PyData) (h : EvL tl σ H (zs.map V.str)) (hl : zs.length < 100000) (hts : ∀ z ∈ zs, ∀ (H H' : Hp) v, Tsm H H' → Dt H v (g z) → Dt H' v (g z)) (hw : ∀ x, wipe ((wipe σ [j]).set j (some x)) [j] = wipe σ [j])
    (hk : ∀ z H', Same H H' → Ev tk ((wipe σ [j]).set j (some (.str z))) H' (.str z)) (hv : ∀ z ∈ zs, ∀ H', Same H H' → EvD tv ((wipe σ [j]).set j (some (.str z))) H' (g z)) :
    EvPr (tLc (RT.iRevA K tl) (gName j) tYes (tTup (tCons tk (tCons tv tNil))) [j]) σ H (zs.reverse.map fun z => (z, g z)) := fun Q q =>
  h _ fun a H1 ha e1 hx => ⟨a, zs.map V.str, rfl, .inl ⟨SqL.of hx, fun Dd hD => by
    have hz : ∀ i, i < (zs.map V.str).length → ∃ z, zs.reverse[i]? = some z ∧ (zs.reverse[i]?).getD "" = z ∧ (zs.map V.str)[(zs.map V.str).length - 1 - i]? = some (.str z) ∧ z ∈ zs := fun i hi => by
      rw [List.length_map] at hi ⊢
      have hi' : i < zs.reverse.length := by rw [List.length_reverse]; exact hi
      refine ⟨zs.reverse[i], List.getElem?_eq_getElem hi', by rw [List.getElem?_eq_getElem hi']; rfl, ?_, List.mem_reverse.mp (List.getElem_mem hi')⟩
      rw [List.getElem?_map, List.getElem_reverse, List.getElem?_eq_getElem (by omega)]
      rfl
    refine lc_pr (walk_rev (K := K) (a := a) (xs := zs.map V.str)) (fun i => ((zs.reverse[i]?).getD "", g ((zs.reverse[i]?).getD ""))) (fun i hi H H' v e hd => ?_) hD (by rw [List.length_map]; exact hl) (fun H2 e2 => SqL.of (e2 _ _ hx)) hw (fun i x H2 H3 hi e2 y => ?_) (fun ts kvs H2 h2 hp hk2 e2 => ?_)
    · obtain ⟨z, h1, h2, _, hm⟩ := hz i hi
      rw [h2] at hd ⊢
      exact hts z hm H H' v e hd
    · obtain ⟨rfl, hy⟩ := y
      obtain ⟨z, h1, h2, h3, hm⟩ := hz i hi
      rw [h3] at hy
      cases hy
      rw [h2]
      exact ⟨Same.refl _, hk z _ (e1.trans e2), fun H4 e4 => hv z hm _ (e1.trans (e2.trans e4))⟩
    · have el : (zs.map V.str).length = zs.reverse.length := by rw [List.length_map, List.length_reverse]
      rw [el, range_mapG zs.reverse (fun z => (z, g z)) _ (fun i x hi => by rw [hi]; rfl)] at hk2
      exact q Dd H2 ts kvs (e1.free hD) (e1.trans e2) h2 hp hk2⟩⟩
end
end Bc

/-! more words for the law -/
namespace Bc
open PySem L2 PyProof.Rows StX
theorem go_poq : GO ["p", "o", "q"] := ⟨by decide +kernel, by decide +kernel, by decide +kernel, by decide +kernel⟩
theorem go_qpo : GO ["q", "p", "o"] := ⟨by decide +kernel, by decide +kernel, by decide +kernel, by decide +kernel⟩
theorem srt_poq : srt (["p", "o", "q"] : List Str) = (["o", "p", "q"] : List Str) := srt_of_sorted (List.Perm.swap _ _ _) (by decide +kernel)
theorem srt_qpo : srt (["q", "p", "o"] : List Str) = (["o", "p", "q"] : List Str) := srt_of_sorted (List.reverse_perm (["o", "p", "q"] : List Str)) (by decide +kernel)
theorem rev_kd {ks : Knots} (hn : (kn ks).Nodup) : ((kn ks).reverse.map fun z => (z, ((kd ks).lookup z).getD .none)) = kd ks.reverse := by
  unfold kn
  rw [← List.map_reverse, List.map_map]
  show _ = ks.reverse.map _
  refine List.map_congr_left fun p hp => ?_
  show (p.1, ((kd ks).lookup p.1).getD .none) = (p.1, dRows p.2)
  rw [kd_get hn (List.mem_reverse.mp hp)]
  rfl
theorem look_no {ks : Knots} {n : Nat} (g : GK n ks) {x : Str} (h : x ∉ ab) : ((kd ks).lookup x).isSome = false := by
  cases e : (kd ks).lookup x with
  | none => rfl
  | some d =>
    have m2 : x ∈ keysD (kd ks) := List.mem_map.mpr ⟨(x, d), lookup_mem e, rfl⟩
    have hk0 : keysD (kd ks) = kn ks := kd_keys ks
    rw [hk0] at m2
    exact absurd (kn_ab g m2) h
theorem look_yes {ks : Knots} {x : Str} (h : x ∈ kn ks) (hn : (kn ks).Nodup) : ((kd ks).lookup x).isSome = true := by
  obtain ⟨⟨x', r⟩, hm, rfl⟩ := List.mem_map.mp h
  rw [kd_get hn hm]
  rfl
section
variable {K : PySem.W.Frag} {σ : L2.St} {H : Hp} {ta tb te tx tv : TE} {t : TA} {D : Ends} {u : TS} {C B : Addr}
theorem evd_tupA {ds : List PyData} (h : EvDA t σ H ds) (hl : ds.length ≤ 100000) : EvD (tTup t) σ H (.tuple ds) := fun Q q => er_tupD h hl Q fun p H1 xs hx e hp => q _ _ e (.tup hp hx)
theorem ev_neKD {k1 : List (Key × V)} {d1 d2 : List (Str × PyData)} (ha : EvK ta σ H k1) (hb : ∀ H', Same H H' → EvKD tb σ H' d2) (h1 : ∀ H', Dk H' k1 d1) (s1 : ∀ p ∈ d1, SeqAt.shaped p.2 = true) (s2 : ∀ p ∈ d2, SeqAt.shaped p.2 = true) : Ev (tOp rNeDK ta tb) σ H (.bl (!eqDK d1 d2)) := fun Q q =>
  ha _ fun a H1 _ e1 ha1 => hb H1 e1 _ fun b H2 k2 _ e2 hb2 hk2 => ⟨a, b, k1, k2, d1, d2, rfl, rfl, e2 _ _ ha1, hb2, h1 _, hk2, s1, s2, q H2 (e1.trans e2)⟩
theorem ev_repS {z : Str} {k : Int} (ha : Ev ta σ H (.str z)) (h1 : 2 ≤ k) (h2 : k ≤ 1000) (h3 : 1 ≤ z.length) (h4 : z.length ≤ 1000) (h5 : (⟨(List.replicate k.toNat z.cps).foldl (· ++ ·) #[]⟩ : Str).length ≤ 100000) : Ev (tOp rRepS ta (tC (.int k))) σ H (.str ⟨(List.replicate k.toNat z.cps).foldl (· ++ ·) #[]⟩) := fun Q q => ha _ fun H1 e1 => ⟨z, k, rfl, rfl, h1, h2, h3, h4, h5, q H1 e1⟩
/-- for a, b in a new tuple of pairs; the turns make things alone -/
theorem q_forTP {tb : TS} {i j n : Nat} {R : List V → Hp → Prop} (h : ∀ Q : VK, (∀ p H1 xs, R xs H1 → Same H H1 → H1 p = some (.tup xs) → Q (.ref p) H1) → te σ H Q) (Ok : L2.St → Prop) (hOk : Ok σ)
    (hs : ∀ H1 xs, R xs H1 → Same H H1 → ∀ x σ' H', x ∈ xs → Same H1 H' → Ok σ' → ∃ t v1 v2, x = .ref t ∧ H' t = some (.tup [v1, v2]) ∧ tb { D with nx := fun σ2 H2 => Ok σ2 ∧ Same H1 H2, ct := fun σ2 H2 => Ok σ2 ∧ Same H1 H2, bk := u D } ((σ'.set i (some v1)).set j (some v2)) H') (hd : ∀ σ' H', Ok σ' → Same H H' → u D σ' H') (hn : n = 2 := by rfl) :
    tSeq (tFor (iTup K te) (gTup K n (gCons (gName i) (gCons (gName j) gNil))) tb) u D σ H := h _ fun p H1 xs r e1 hx => ⟨p, rfl, ⟨xs, SqT.of hx⟩, for_it (walk_tup (K := K) (a := p) (xs := xs)) (fun _ σ' H' => Ok σ' ∧ Same H1 H') ⟨hOk, Same.refl _⟩ (fun i σ' H' _ q => SqT.of (q.2 _ _ hx)) (fun i x σ' H2 H3 hi q y => by
      obtain ⟨rfl, hy⟩ := y
      obtain ⟨t, v1, v2, rfl, ht, g⟩ := hs H1 xs r e1 x σ' _ (List.mem_of_getElem? hy) q.2 q.1
      exact ⟨t, [v1, v2], rfl, SqT.of ht, hn.symm, v1, [v2], rfl, v2, [], rfl, rfl, g⟩) fun σ' H' q => hd σ' H' q.1 (e1.trans q.2)⟩
end
/-- the thirteen knots -/
def kz (i : Nat) : Str := ("k" : Str) ++ (toString ((0 : Int) + (i : Nat)) : Str)
def dOne : PyData := .tuple [.tuple [], .tuple [.tuple [.str "o"]]]
def dMany : List (Str × PyData) := (List.range 13).map fun i => (kz i, dOne)
theorem many_nd : (keysD dMany).Nodup := by
  unfold dMany keysD
  rw [List.map_map]
  decide +kernel
theorem kz_log : ∀ i, i < 13 → ((0 : Int) + (i : Nat)).natAbs.log2 < 1920 := by decide +kernel
theorem one_rows : dOne = dRows ([], [["o"]]) := rfl
section
variable {K : PySem.W.Frag} {σ : L2.St} {H : Hp} {tv : TE}
theorem ekd_many {j : Nat} (hw : ∀ x, wipe ((wipe σ [j]).set j (some x)) [j] = wipe σ [j]) (hg : ∀ x, ((wipe σ [j]).set j (some x))[j]? = some (some x)) (hv : ∀ x H', Same H H' → EvD tv ((wipe σ [j]).set j (some x)) H' dOne) :
    EvKD (tCB (rDictP K) (tCons (tLc (iRng1 (tCons (tC (.int 13)) tNil)) (gName j) tYes (tTup (tCons (tOp (fun x y H Q => ∃ i j, x = .str i ∧ y = .str j ∧ i.length + j.length ≤ sizeLine ∧ Q (.str (i ++ j)) H) (tC (.str "k")) (tCB (fun xs H Q => ∃ i, xs = [.int i] ∧ i.natAbs.log2 < 1920 ∧ Q (.str (toString i)) H) (tCons (tVar j) tNil))) (tCons tv tNil))) [j]) tNil)) σ H dMany :=
  ekd_dict (fun Q q => ⟨13, rfl, by decide, by decide, fun Dd hD => by
    show ∃ W : Nat → Nat → Hp → Prop, _
    refine lc_pr (walk_range (lo := 0) (n := 13)) (fun i => (kz i, dOne)) (fun i hi H H' v e hd => ?_) hD (by decide) (fun _ _ => True.intro) hw (fun i x H2 H3 hi e2 y => ?_) (fun ts kvs H2 h2 hp hk2 e2 => q Dd H2 ts kvs hD e2 h2 hp hk2)
    · rw [one_rows] at hd ⊢
      exact hd.rows_ts e
    · obtain ⟨rfl, rfl⟩ := y
      exact ⟨Same.refl _, fun Q q => ⟨_, hg _, _, rfl, kz_log i hi, "k", _, rfl, rfl, (show ("k" : Str).length + (toString ((0 : Int) + (i : Nat)) : Str).length ≤ sizeLine from by
        have : ∀ i, i < 13 → ("k" : Str).length + (toString ((0 : Int) + (i : Nat)) : Str).length ≤ 1000 := by decide +kernel
        exact sz (by have := this i hi; omega)), q _ (Same.refl _)⟩, fun H4 e4 => hv _ _ (e2.trans e4)⟩⟩) many_nd
end
/-! ### the ten rows -/
theorem tgs_zz {n : Nat} {ks : Knots} (g : GK n ks) {x : Str} (h : x ∉ ab) (h2 : x ∉ (["o", "p"] : List Str)) : TgsIn ks x = false := decide_eq_false fun m => by
  rcases List.mem_append.mp m with m | m
  · exact h (kn_ab g m)
  · exact h2 m
theorem small_two {f t : PyData} (h1 : smallN 1 f) (h2 : smallN 1 t) : smallN 2 (.tuple [f, t]) := ⟨by show 2 ≤ 1000; decide, fun e he => by
  rcases List.mem_cons.mp (show e ∈ [f, t] from he) with h | h
  · rw [h]; exact h1
  · rw [List.mem_singleton.mp h]; exact h2⟩
theorem small_snoc {l : List PyData} {d : PyData} (h1 : l.length ≤ 900) (h2 : ∀ e ∈ l, sizeD e ≤ 1000) (h3 : sizeD d ≤ 1000) : smallN 1 (.tuple (l ++ [d])) := ⟨by
  show (l ++ [d]).length ≤ 1000
  rw [List.length_append]
  show l.length + 1 ≤ 1000
  omega, fun e he => by
  rcases List.mem_append.mp (show e ∈ l ++ [d] from he) with h | h
  · exact h2 e h
  · rw [List.mem_singleton.mp h]; exact h3⟩
theorem bad_all {n : Nat} {ks : Knots} {r0 : Rows} (g : GK n ks) (l1 : r0.1.length ≤ 2) (l2 : 1 ≤ r0.2.length) (l3 : r0.2.length ≤ 5) (ok1 : ∀ d ∈ r0.1, okd n d) (ok2 : ∀ d ∈ r0.2, okd n d) :
    ∀ d ∈ ([.tuple [dRow r0.1, .tuple []], .tuple [dRow r0.1, .tuple (r0.2.map dDrop ++ [.tuple [.str "zz"]])], .tuple [dRow r0.1, .tuple (r0.2.map dDrop ++ [.str "o"])], .tuple [dRow r0.1, .list (r0.2.map dDrop)], .tuple [dRow r0.1],
        .tuple [dRow r0.1, .tuple (r0.2.map dDrop ++ [.tuple (List.replicate 5 [PyData.str "o"]).flatten])], .tuple [dRow r0.1, .tuple (r0.2.map dDrop ++ [.tuple [.str "i"]])], .tuple [.tuple (r0.1.map dDrop ++ [.tuple [.int 3]]), dRow r0.2], .tuple [dRow r0.1, .tuple ((List.replicate 13 (r0.2.map dDrop)).flatten.take 13)], .none] : List PyData),
      okRows (TgsIn ks) d = false ∧ smallN 2 d := by
  have zz := tgs_zz g (x := "zz") (by decide +kernel) (by decide +kernel)
  have ii := tgs_zz g (x := "i") (by decide +kernel) (by decide +kernel)
  have s1 : smallN 1 (dRow r0.1) := small_row (by omega) fun d hd => by have := (ok1 d hd).1; omega
  have s2 : smallN 1 (dRow r0.2) := small_row (by omega) fun d hd => by have := (ok2 d hd).1; omega
  have m1 : (r0.1.map dDrop).length = r0.1.length := List.length_map _
  have m2 : (r0.2.map dDrop).length = r0.2.length := List.length_map _
  have t2 : ∀ {d : PyData}, sizeD d ≤ 1000 → smallN 1 (.tuple (r0.2.map dDrop ++ [d])) := fun h => small_snoc (by omega) s2.2 h
  have e13 : (List.replicate 13 (r0.2.map dDrop)).flatten.length = 13 * r0.2.length := by
    rw [List.length_flatten, List.map_replicate, List.sum_replicate_nat, m2]
  have e13' : ((List.replicate 13 (r0.2.map dDrop)).flatten.take 13).length = 13 := by
    rw [List.length_take, e13]
    omega
  intro d hd
  simp only [List.mem_cons, List.not_mem_nil, or_false] at hd
  rcases hd with h | h | h | h | h | h | h | h | h | h <;> rw [h]
  · exact ⟨rows_empty, small_two s1 ⟨Nat.zero_le _, fun e he => nomatch he⟩⟩
  · exact ⟨rows_turn (row_last (drop_out zz)), small_two s1 (t2 (by show 1 ≤ 1000; decide))⟩
  · exact ⟨rows_turn (row_last drop_text), small_two s1 (t2 (by show 0 ≤ 1000; decide))⟩
  · exact ⟨rows_list, small_two s1 ⟨by show (r0.2.map dDrop).length ≤ 1000; omega, s2.2⟩⟩
  · exact ⟨rows_one, ⟨by show 1 ≤ 1000; decide, fun e he => by rw [List.mem_singleton.mp (show e ∈ [dRow r0.1] from he)]; exact s1⟩⟩
  · exact ⟨rows_turn (row_last (drop_five (by decide))), small_two s1 (t2 (by show (List.replicate 5 [PyData.str "o"]).flatten.length ≤ 1000; decide))⟩
  · exact ⟨rows_turn (row_last (drop_out ii)), small_two s1 (t2 (by show 1 ≤ 1000; decide))⟩
  · exact ⟨rows_front (row_last drop_int), small_two (small_snoc (by omega) s1.2 (by show 1 ≤ 1000; decide)) s2⟩
  · refine ⟨rows_turn (row_long (by rw [e13']; decide)), small_two s1 ⟨by show (List.take 13 _).length ≤ 1000; rw [e13']; decide, fun e he => ?_⟩⟩
    have m := List.mem_of_mem_take (show e ∈ (List.replicate 13 (r0.2.map dDrop)).flatten.take 13 from he)
    obtain ⟨l, hl, hm⟩ := List.mem_flatten.mp m
    rw [(List.mem_replicate.mp hl).2] at hm
    exact s2.2 e hm
  · exact ⟨rows_non, ⟨by show 0 ≤ 1000; decide, fun e he => nomatch he⟩⟩
/-! ### the five names -/
def vD : V → PyData
  | .str z => .str z
  | _ => .none
def a17 : Str := ⟨(List.replicate (17 : Int).toNat ("a" : Str).cps).foldl (· ++ ·) #[]⟩
theorem wr_all (t : PyData) (h : t ∈ ([.tuple [.str "A", .str "A"], .tuple [.str a17, .str a17], .tuple [.str "1a", .str "1a"], .tuple [.str "", .str ""], .tuple [.int 3, .none]] : List PyData)) :
    ∃ (k : Key) (d : PyData) (v : V), t = .tuple [d, vD v] ∧ Wr k d v ∧ scal v v = true ∧ (v = .non ∨ ∃ z, v = .str z) := by
  have sh : ∀ z ∈ (["A", a17, "1a", ""] : List Str), okName z = false ∧ z.length ≤ 1000 ∧ (PySem.reprText z).length ≤ 1000 := by decide +kernel
  have key : ∀ z ∈ (["A", a17, "1a", ""] : List Str), ∃ (k : Key) (d : PyData) (v : V), PyData.tuple [.str z, .str z] = .tuple [d, vD v] ∧ Wr k d v ∧ scal v v = true ∧ (v = .non ∨ ∃ z, v = .str z) := fun z hz =>
    ⟨.inr z, .str z, .str z, rfl, .str z (sh z hz).1 (short_of (sh z hz).2.1 (sh z hz).2.2), rfl, .inr ⟨z, rfl⟩⟩
  simp only [List.mem_cons, List.not_mem_nil, or_false] at h
  rcases h with h | h | h | h | h
  · rw [h]; exact key _ List.mem_cons_self
  · rw [h]; exact key _ (List.mem_cons_of_mem _ List.mem_cons_self)
  · rw [h]; exact key _ (List.mem_cons_of_mem _ (List.mem_cons_of_mem _ List.mem_cons_self))
  · rw [h]; exact key _ (List.mem_cons_of_mem _ (List.mem_cons_of_mem _ (List.mem_cons_of_mem _ List.mem_cons_self)))
  · exact ⟨.inl 3, .int 3, .non, by rw [h]; rfl, .int 3, rfl, .inl rfl⟩
theorem wr_vals {H : Hp} {k : Key} {d : PyData} {v v1 v2 : V} (w : Wr k d v) (h1 : Dt H v1 d) (h2 : Dt H v2 (vD v)) : v1 = kV k ∧ v2 = v := by
  cases w with
  | str z _ _ =>
    cases h1
    cases h2
    exact ⟨rfl, rfl⟩
  | int i =>
    cases h1
    cases h2
    exact ⟨rfl, rfl⟩
theorem wr_dt {H : Hp} {k : Key} {d : PyData} {v : V} (w : Wr k d v) (h : ∃ z, v = .str z) : ∃ z, k = .inr z ∧ d = .str z ∧ v = .str z := by
  cases w with
  | str z _ _ => exact ⟨z, rfl, rfl, rfl⟩
  | int i =>
    obtain ⟨z, hz⟩ := h
    cases hz
theorem merge_new {kv : List (Key × V)} {k : Key} {v : V} (h : (kv.map fun p => p.1).Nodup) (hk : k ∉ kv.map fun p => p.1) : mergeK [] (kv ++ [(k, v)]) = kv ++ [(k, v)] := merge_nd0 (by
  rw [List.map_append, List.nodup_append]
  exact ⟨h, by simp, fun a ha b hb e => by
    rw [List.mem_singleton.mp (show b ∈ [k] from hb)] at e
    exact hk (e ▸ ha)⟩)
section
variable {K : PySem.W.Frag} {σ : L2.St} {H : Hp}
theorem ek_disp3 {k1 k2 k3 : Str} {t1 t2 t3 : TE} {v1 v2 v3 : V} (h1 : ∀ H', Same H H' → Ev t1 σ H' v1) (h2 : ∀ H', Same H H' → Ev t2 σ H' v2) (h3 : ∀ H', Same H H' → Ev t3 σ H' v3) (nd : ([k1, k2, k3] : List Str).Nodup) : EvK (tDisp [(tC (.str k1), t1), (tC (.str k2), t2), (tC (.str k3), t3)]) σ H [(.inr k1, v1), (.inr k2, v2), (.inr k3, v3)] := fun Q q p hp =>
  h1 _ (same_upd hp) _ fun H1 e1 => h2 _ ((same_upd hp).trans e1) _ fun H2 e2 => h3 _ ((same_upd hp).trans (e1.trans e2)) _ fun H3 e3 => ⟨e3 _ _ (e2 _ _ (e1 _ _ upd_same)), [(.inr k1, v1), (.inr k2, v2), (.inr k3, v3)], rfl, (show 3 ≤ 15 by decide), by
    rw [merge_nd0 (by
      have q := List.pairwise_map.mpr (List.Pairwise.imp (fun ne e => ne (Sum.inr.inj e)) nd : List.Pairwise (fun a b : Str => (Sum.inr a : Key) ≠ Sum.inr b) [k1, k2, k3])
      exact q)]
    exact q p _ hp (Same.mut (((same_upd hp).trans e1).trans (e2.trans e3)) hp) upd_same⟩
end
theorem not_inr {x : Str} {l : List Str} (h : x ∉ l) : (Sum.inr x : Key) ∉ (l.map Sum.inr : List Key) := fun m => by
  obtain ⟨y, hy, e⟩ := List.mem_map.mp m
  exact h (Sum.inr.inj e ▸ hy)
end Bc

namespace Bc
open PySem L2 PyProof.Rows StX
section
variable {P : Program} {w : World} {K : PySem.W.Frag} {mg : Str → Option Value} {base : Heap} {ad : Ad}
/-- what stands while the law runs -/
structure LF (K : PySem.W.Frag) (H : Hp) (C sa ka ia na nl : Addr) (ns : List Int) (kv : List (Key × V)) (n : Nat) (ks : Knots) (y : Str) : Prop where
  lb : LB H ka ia kv n ks y
  hS : SqL K H sa (ns.map V.int)
  net : NetAt H C na (kd ks) (id_ (is0 y)) ["o", "p", "q"]
  nm : H nl = some (.lst ((kn ks).map V.str))
theorem LF.go {H H' : Hp} {C sa ka ia na nl : Addr} {ns : List Int} {kv : List (Key × V)} {n : Nat} {ks : Knots} {y : Str} (f : LF K H C sa ka ia na nl ns kv n ks y) (e : Same H H') : LF K H' C sa ka ia na nl ns kv n ks y := ⟨f.lb.go e, Same.seqL e f.hS, f.net.go e, e _ _ f.nm⟩
theorem q_par2R {σ : L2.St} {H : Hp} {ta tb : TE} {u : TS} {D : Ends} {i j : Nat} {R1 : V → Hp → Prop} {R2 : V → V → Hp → Prop} (h1 : ∀ Q : VK, (∀ v H1, R1 v H1 → Q v H1) → ta σ H Q) (h2 : ∀ v H1, R1 v H1 → ∀ Q : VK, (∀ w H2, R2 v w H2 → Q w H2) → tb σ H1 Q)
    (k : ∀ v w H2, R2 v w H2 → u D ((σ.set i (some v)).set j (some w)) H2) : tSeq (tPar i j (tCons ta (tCons tb tNil))) u D σ H := h1 _ fun v H1 r1 => h2 v H1 r1 _ fun w H2 r2 => ⟨v, w, rfl, k v w H2 r2⟩
/-! ### law -/
def spLaw (K : PySem.W.Frag) : Sp := fun vs H Q _ => ∃ (s : Addr) (ns : List Int), vs = [.ref s] ∧ SqL K H s (ns.map V.int) ∧ ns.length ≤ 63 ∧ ∀ H', Q (.bl true) H'
abbrev nmLaw : List Str := ["script", "knots", "inlets", "net", "names", "name", "front", "turn", "bad", "wrong", "due", "lone", "many", "at"]
theorem scLaw : FnScope nmLaw ["script"] (defScope sLaw) := ⟨rfl, rfl, rfl, by decide +kernel, rfl, by decide +kernel, by decide +kernel⟩
theorem ok_law (T : Tc K mg ad) (TB : Tb P K mg ad) (FL : Fun K "law" "law" sLaw ad.law ad.dLaw) : FnOk P w K mg base CX0 9 ad.law ad.dLaw ["script"] (spLaw K) := by
  have GD : FnOk P w K mg base CX0 2 ad.draw ad.dDraw ["script", "at", "many"] (spDraw K) := ok_draw T.tx
  have bD := T.tx.fDraw.binds (ps := ["script", "at", "many"]) fun _ _ _ _ _ _ us hl => match us, hl with | [_, _, _], _ => rfl
  have GK_ : FnOk P w K mg base CX0 3 ad.lKnots ad.dLKnots ["script", "at", "lossy"] (spLKnots K) := ok_lknots T.tx
  have bK := T.tx.fLKnots.binds (ps := ["script", "at", "lossy"]) fun _ _ _ _ _ _ us hl => match us, hl with | [_, _, _], _ => rfl
  have GI_ : FnOk P w K mg base CX0 3 ad.lInlets ad.dLInlets ["script", "at", "knots"] (spLInlets K) := ok_linlets T.tx
  have bI := T.tx.fLInlets.binds (ps := ["script", "at", "knots"]) fun _ _ _ _ _ _ us hl => match us, hl with | [_, _, _], _ => rfl
  have GR : FnOk P w K mg base CX0 8 ad.refused ad.dRefused ["knots", "inlets", "outlets", "name"] (spRefused ad.cNet ad.cBad) := ok_refused TB
  have bR := T.tx.fRefused.binds (ps := ["knots", "inlets", "outlets", "name"]) fun _ _ _ _ _ _ us hl => match us, hl with | [_, _, _, _], _ => rfl
  have GN : FnOk P w K mg base (L2.CX P w) 6 ad.init ad.dInit ["self", "knots", "inlets", "outlets"] (spInit ad.cNet ad.cBad) := ok_init TB
  have bN := T.tx.fInit.binds (ps := ["self", "knots", "inlets", "outlets"]) fun _ _ _ _ _ _ us hl => match us, hl with | [_, _, _, _], _ => rfl
  have GE : FnOk P w K mg base CX0 3 ad.eq ad.dEq ["self", "other"] (spEq ad.cNet) := ok_eq T
  have bE := T.tx.fEq.binds (ps := ["self", "other"]) fun _ _ _ _ _ _ us hl => match us, hl with | [_, _], _ => rfl
  have GL : FnOk P w K mg base CX0 2 ad.len ad.dLen ["self"] (spLen ad.cNet) := ok_len T
  have bL := T.tx.fLen.binds (ps := ["self"]) fun _ _ _ _ _ _ us hl => match us, hl with | [_], _ => rfl
  have GH : FnOk P w K mg base CX0 2 ad.has ad.dHas ["self", "name"] (spHas ad.cNet) := ok_has T
  have bH := T.tx.fHas.binds (ps := ["self", "name"]) fun _ _ _ _ _ _ us hl => match us, hl with | [_, _], _ => rfl
  have GS : FnOk P w K mg base CX0 2 ad.start ad.dStart ["self"] (spStart ad.cNet) := ok_start T
  have bS := T.tx.fStart.binds (ps := ["self"]) fun _ _ _ _ _ _ us hl => match us, hl with | [_], _ => rfl
  refine FL.ok scLaw (fun vs H Q E h => ?_) (fun cdv A outer s H vs Q E hr h => ?_)
  · obtain ⟨sa, ns, rfl, _⟩ := h
    rfl
  · obtain ⟨sa, ns, rfl, hS, hl, k⟩ := h
    have hr2 : Room 2 _ := hr.mono (by decide)
    have hr3 : Room 3 _ := hr.mono (by decide)
    have hr4 : Room 4 _ := hr.mono (by decide)
    have hr7 : Room 7 _ := hr.mono (by decide)
    refine ⟨_, (pss_cons (ps_set (i := 1) scLaw.nd rfl (.inr rfl) (pe_call GK_ hr3 (by rfl) T.tx.gLKnots T.tx.fLKnots.kp bK .nil pass0 (pa_cons (pv 0) (pa_cons pe_int (pa_cons pe_bl pa_nil)))))
      (pss_cons (ps_set (i := 2) scLaw.nd rfl (.inl rfl) (pe_call GI_ hr3 (by rfl) T.tx.gLInlets T.tx.fLInlets.kp bI .nil pass0 (pa_cons (pv 0) (pa_cons pe_int (pa_cons (pv 1) pa_nil)))))
      (pss_cons (ps_par (i := 3) (j := 4) rfl scLaw.nd rfl rfl (by decide) rfl rfl (pa_cons (pe_make T.tx.mkN GN hr7 (by rfl) T.tx.gNet bN .nil passL (pa_cons (pv 1) (pa_cons (pv 2) (pa_cons (pe_lst (pa_cons pe_str (pa_cons pe_str (pa_cons pe_str pa_nil)))) pa_nil)))) (pa_cons (pe_callB cr_sortedS (by rfl) T.tx.sorted b_sorted (pa_cons (pe_callTy (call_listD rfl) (by rfl) T.tx.list b_list (pa_cons (pv 1) pa_nil)) pa_nil)) pa_nil)) rfl)
      (pss_cons (ps_if (PW.pt (pw_or (pt_cmpR (op_neD hr.units) (pe_callTy (call_listD rfl) (by rfl) T.tx.list b_list (pa_cons (pe_fld (pv 3) rfl) pa_nil)) (pv 4) (nomark _)) (pw_or (pt_cmpR (op_neDK (in1u hr)) (pe_fld (pv 3) rfl) (pv 1) (nomark _)) (pw_or (pt_cmpR (op_neD hr.units) (pe_callTy (call_listD rfl) (by rfl) T.tx.list b_list (pa_cons (pe_fld (pv 3) rfl) pa_nil)) (pe_lst (pa_cons pe_str (pa_cons pe_str pa_nil))) (nomark _)) (pw_or (pt_cmpR (op_neD hr.units) (pe_fld (pv 3) rfl) (pe_tup (pa_cons pe_str (pa_cons pe_str (pa_cons pe_str pa_nil)))) (nomark _)) (pw_or1 (pt_cmpR op_ne (pe_callB (cr_lenO GL bL pass0 hr3 T.oLen) (by rfl) T.tx.len PySem.boot_len (pa_cons (pv 3) pa_nil)) (pe_callB call_lenD (by rfl) T.tx.len PySem.boot_len (pa_cons (pv 1) pa_nil)) (nomark _)))))))) (pss_one (ps_ret pe_bl)) pss_nil)
      (pss_cons (ps_if (PW.pt (pw_or (pt_cmpR (op_eqO GE bE pass0 hr3 T.oEq) (pv 3) (pe_make T.tx.mkN GN hr7 (by rfl) T.tx.gNet bN .nil passL (pa_cons (pv 1) (pa_cons (pv 2) (pa_cons (pe_lst (pa_cons pe_str (pa_cons pe_str pa_nil))) pa_nil)))) (nomark _)) (pw_or1 (pt_cmpR (op_eqO GE bE pass0 hr3 T.oEq) (pv 3) pe_int (nomark _))))) (pss_one (ps_ret pe_bl)) pss_nil)
      (pss_cons (ps_if (pt_cmpR (op_neO GE bE pass0 hr4 T.oEq T.ne T.obj) (pv 3) (pe_make T.tx.mkN GN hr7 (by rfl) T.tx.gNet bN .nil passL (pa_cons (pe_callTy (call_dictP rfl) (by rfl) T.tx.dict b_dict (pa_cons (pe_lc (own := [("name", 5)]) (g := gName 5) (tt := tYes) rfl scLaw.nd (RT.pi_revA (by rfl) T.tx.reversed (pe_callTy call_list_of (by rfl) T.tx.list b_list (pa_cons (pv 4) pa_nil))) (blkOk_by (N := nmLaw) (sc := defScope sLaw) (by decide +kernel)) (fun _ _ _ _ _ => pg_name (i := 5) scLaw.nd rfl (Or.inl rfl)) (fun _ _ _ _ _ => pts_nil) (fun _ _ _ _ _ => (pe_tup (pa_cons (pv 5) (pa_cons (pe_dget (hu_of hr) (pv 1) (pv 5) (fun _ _ => rfl)) pa_nil))))) pa_nil)) (pa_cons (pe_disp (pps_cons pe_str (pe_dget (hu_of hr) (pv 2) pe_str (fun _ _ => rfl)) (pps_cons pe_str pe_str pps_nil)) (by rfl) (by rfl) (by decide) (by decide)) (pa_cons (pe_tup (pa_cons pe_str (pa_cons pe_str (pa_cons pe_str pa_nil)))) pa_nil)))) (nomark _)) (pss_one (ps_ret pe_bl)) pss_nil)
      (pss_cons (ps_if (PW.pt (pw_or (pt_cmpR (op_neDK (in1u hr)) (pe_meth0 (pv 3) T.tx.cl T.tx.mStart GS hr2 bS .nil pass0) (pe_callTy (call_dictP rfl) (by rfl) T.tx.dict b_dict (pa_cons (pe_lc (own := [("name", 5)]) (g := gName 5) (tt := tYes) rfl scLaw.nd (pi_list (pv 4)) (blkOk_by (N := nmLaw) (sc := defScope sLaw) (by decide +kernel)) (fun _ _ _ _ _ => pg_name (i := 5) scLaw.nd rfl (Or.inl rfl)) (fun _ _ _ _ _ => pts_nil) (fun _ _ _ _ _ => (pe_tup (pa_cons (pv 5) (pa_cons pe_int pa_nil))))) pa_nil)) (nomark _)) (pw_or (pt_cmpR (op_notInO GH bH pass0 hr2 T.oHas) pe_str (pv 3) (by rfl)) (pw_or (pt_cmpR (op_notInO GH bH pass0 hr2 T.oHas) pe_str (pv 3) (by rfl)) (pw_or (pt_cmpR (op_inO GH bH pass0 hr2 T.oHas) pe_str (pv 3) (by rfl)) (pw_or1 (pt_cmpR (op_inO GH bH pass0 hr2 T.oHas) pe_int (pv 3) (by rfl)))))))) (pss_one (ps_ret pe_bl)) pss_nil)
      (pss_cons (ps_set (i := 5) scLaw.nd rfl (.inl rfl) (pe_ix ix_list (pv 4) (pe_call GD hr2 (by rfl) T.tx.gDraw T.tx.fDraw.kp bD .nil pass0 (pa_cons (pv 0) (pa_cons pe_int (pa_cons (pe_callB (call_lenK (K := K) rfl) (by rfl) T.tx.len PySem.boot_len (pa_cons (pv 4) pa_nil)) pa_nil)))) (fun _ _ => rfl)))
      (pss_cons (ps_asg (pe_dget (hu_of hr) (pv 1) (pv 5) (fun _ _ => rfl)) (pg_tup (by rfl) (pgs_cons (pg_name (i := 6) scLaw.nd rfl (.inl rfl)) (pgs_cons (pg_name (i := 7) scLaw.nd rfl (.inl rfl)) pgs_nil))))
      (pss_cons (ps_for PassesOwn.never rfl (pi_tup (pe_tup (pa_cons (pe_tup (pa_cons (pv 6) (pa_cons (pe_tup pa_nil) pa_nil))) (pa_cons (pe_tup (pa_cons (pv 6) (pa_cons (pe_op op_catA (pv 7) (pe_tup (pa_cons (pe_tup (pa_cons pe_str pa_nil)) pa_nil))) pa_nil))) (pa_cons (pe_tup (pa_cons (pv 6) (pa_cons (pe_op op_catA (pv 7) (pe_tup (pa_cons pe_str pa_nil))) pa_nil))) (pa_cons (pe_tup (pa_cons (pv 6) (pa_cons (pe_callTy call_list_of (by rfl) T.tx.list b_list (pa_cons (pv 7) pa_nil)) pa_nil))) (pa_cons (pe_tup (pa_cons (pv 6) pa_nil)) (pa_cons (pe_tup (pa_cons (pv 6) (pa_cons (pe_op op_catA (pv 7) (pe_tup (pa_cons (pe_op op_repT (pe_tup (pa_cons pe_str pa_nil)) pe_int) pa_nil))) pa_nil))) (pa_cons (pe_tup (pa_cons (pv 6) (pa_cons (pe_op op_catA (pv 7) (pe_tup (pa_cons (pe_tup (pa_cons pe_str pa_nil)) pa_nil))) pa_nil))) (pa_cons (pe_tup (pa_cons (pe_op op_catA (pv 6) (pe_tup (pa_cons (pe_tup (pa_cons pe_int pa_nil)) pa_nil))) (pa_cons (pv 7) pa_nil))) (pa_cons (pe_tup (pa_cons (pv 6) (pa_cons (pe_slice sl_tupA (pe_op op_repT (pv 7) pe_int) po_none (po_some pe_int)) pa_nil))) (pa_cons pe_non pa_nil)))))))))))) (pg_name (i := 8) scLaw.nd rfl (.inl rfl)) (pss_one (ps_if (pt_not (pt_val (pe_call GR hr (by rfl) T.tx.gRefused T.tx.fRefused.kp bR .nil pass0 (pa_cons (pe_callTy (call_dictP rfl) (by rfl) T.tx.dict b_dict (pa_cons (pe_op op_cat (LiI.pe_listItems (by rfl) (pv 1) (by rfl) T.tx.list b_list) (pe_lst (pa_cons (pe_tup (pa_cons (pv 5) (pa_cons (pv 8) pa_nil))) pa_nil))) pa_nil)) (pa_cons (pv 2) (pa_cons (pe_tup (pa_cons pe_str (pa_cons pe_str pa_nil))) (pa_cons (pv 5) pa_nil))))))) (pss_one (ps_ret pe_bl)) pss_nil)))
      (pss_cons (ps_for PassesOwn.never rfl (pi_tup (pe_tup (pa_cons (pe_tup (pa_cons pe_str (pa_cons pe_str pa_nil))) (pa_cons (pe_tup (pa_cons (pe_op op_repS pe_str pe_int) (pa_cons (pe_op op_repS pe_str pe_int) pa_nil))) (pa_cons (pe_tup (pa_cons pe_str (pa_cons pe_str pa_nil))) (pa_cons (pe_tup (pa_cons pe_str (pa_cons pe_str pa_nil))) (pa_cons (pe_tup (pa_cons pe_int (pa_cons pe_non pa_nil))) pa_nil))))))) (pg_tup (by rfl) (pgs_cons (pg_name (i := 9) scLaw.nd rfl (.inl rfl)) (pgs_cons (pg_name (i := 10) scLaw.nd rfl (.inl rfl)) pgs_nil))) (pss_cons (ps_if (pt_not (pt_val (pe_call GR hr (by rfl) T.tx.gRefused T.tx.fRefused.kp bR .nil pass0 (pa_cons (pe_callTy (call_dictP rfl) (by rfl) T.tx.dict b_dict (pa_cons (pe_op op_cat (LiI.pe_listItems (by rfl) (pv 1) (by rfl) T.tx.list b_list) (pe_lst (pa_cons (pe_tup (pa_cons (pv 9) (pa_cons (pe_tup (pa_cons (pe_tup pa_nil) (pa_cons (pe_tup (pa_cons (pe_tup (pa_cons pe_str pa_nil)) pa_nil)) pa_nil))) pa_nil))) pa_nil))) pa_nil)) (pa_cons (pv 2) (pa_cons (pe_tup (pa_cons pe_str (pa_cons pe_str pa_nil))) (pa_cons (pv 10) pa_nil))))))) (pss_one (ps_ret pe_bl)) pss_nil)
      (pss_cons (ps_if (pt_not (pt_val (pe_call GR hr (by rfl) T.tx.gRefused T.tx.fRefused.kp bR .nil pass0 (pa_cons (pv 1) (pa_cons (pv 2) (pa_cons (pe_tup (pa_cons pe_str (pa_cons pe_str (pa_cons (pv 9) pa_nil)))) (pa_cons (pv 10) pa_nil))))))) (pss_one (ps_ret pe_bl)) pss_nil)
      (pss_one (ps_if (pt_not (pt_val (pe_call GR hr (by rfl) T.tx.gRefused T.tx.fRefused.kp bR .nil pass0 (pa_cons (pv 1) (pa_cons (pe_callTy (call_dictP rfl) (by rfl) T.tx.dict b_dict (pa_cons (pe_op op_cat (LiI.pe_listItems (by rfl) (pv 2) (by rfl) T.tx.list b_list) (pe_lst (pa_cons (pe_tup (pa_cons (pv 9) (pa_cons pe_str pa_nil))) pa_nil))) pa_nil)) (pa_cons (pe_tup (pa_cons pe_str (pa_cons pe_str pa_nil))) (pa_cons (pv 10) pa_nil))))))) (pss_one (ps_ret pe_bl)) pss_nil)))))
      (pss_cons (ps_if (PW.pt (pw_or (pt_not (pt_val (pe_call GR hr (by rfl) T.tx.gRefused T.tx.fRefused.kp bR .nil pass0 (pa_cons (pv 1) (pa_cons (pv 2) (pa_cons (pe_tup (pa_cons pe_str (pa_cons pe_str (pa_cons pe_str pa_nil)))) (pa_cons pe_str pa_nil))))))) (pw_or1 (pt_not (pt_val (pe_call GR hr (by rfl) T.tx.gRefused T.tx.fRefused.kp bR .nil pass0 (pa_cons (pv 1) (pa_cons (pv 2) (pa_cons (pe_tup (pa_cons pe_str (pa_cons pe_str (pa_cons (pv 5) pa_nil)))) (pa_cons (pv 5) pa_nil)))))))))) (pss_one (ps_ret pe_bl)) pss_nil)
      (pss_cons (ps_if (pt_not (pt_val (pe_call GR hr (by rfl) T.tx.gRefused T.tx.fRefused.kp bR .nil pass0 (pa_cons (pv 1) (pa_cons (pe_disp (pps_cons pe_str pe_str pps_nil) (by rfl) (by rfl) (by decide) (by decide)) (pa_cons (pe_tup (pa_cons pe_str (pa_cons pe_str pa_nil))) (pa_cons pe_str pa_nil))))))) (pss_one (ps_ret pe_bl)) pss_nil)
      (pss_cons (ps_if (PW.pt (pw_or (pt_not (pt_val (pe_call GR hr (by rfl) T.tx.gRefused T.tx.fRefused.kp bR .nil pass0 (pa_cons (pv 1) (pa_cons (pe_disp (pps_cons pe_str pe_str (pps_cons pe_str pe_str pps_nil)) (by rfl) (by rfl) (by decide) (by decide)) (pa_cons (pe_tup (pa_cons pe_str (pa_cons pe_str pa_nil))) (pa_cons pe_str pa_nil))))))) (pw_or1 (pt_not (pt_val (pe_call GR hr (by rfl) T.tx.gRefused T.tx.fRefused.kp bR .nil pass0 (pa_cons (pv 1) (pa_cons pe_dnewK (pa_cons (pe_tup (pa_cons pe_str (pa_cons pe_str pa_nil))) (pa_cons pe_non pa_nil)))))))))) (pss_one (ps_ret pe_bl)) pss_nil)
      (pss_cons (ps_if (PW.pt (pw_or (pt_not (pt_val (pe_call GR hr (by rfl) T.tx.gRefused T.tx.fRefused.kp bR .nil pass0 (pa_cons (pv 1) (pa_cons (pe_lst pa_nil) (pa_cons (pe_tup (pa_cons pe_str (pa_cons pe_str pa_nil))) (pa_cons pe_non pa_nil))))))) (pw_or1 (pt_not (pt_val (pe_call GR hr (by rfl) T.tx.gRefused T.tx.fRefused.kp bR .nil pass0 (pa_cons (pv 1) (pa_cons (pv 2) (pa_cons pe_str (pa_cons pe_non pa_nil)))))))))) (pss_one (ps_ret pe_bl)) pss_nil)
      (pss_cons (ps_if (pt_not (pt_val (pe_call GR hr (by rfl) T.tx.gRefused T.tx.fRefused.kp bR .nil pass0 (pa_cons (pv 1) (pa_cons (pe_callTy (call_dictP rfl) (by rfl) T.tx.dict b_dict (pa_cons (pe_op op_cat (LiI.pe_listItems (by rfl) (pv 2) (by rfl) T.tx.list b_list) (pe_lst (pa_cons (pe_tup (pa_cons pe_str (pa_cons pe_str pa_nil))) pa_nil))) pa_nil)) (pa_cons (pe_tup (pa_cons pe_str (pa_cons pe_str (pa_cons pe_str pa_nil)))) (pa_cons pe_str pa_nil))))))) (pss_one (ps_ret pe_bl)) pss_nil)
      (pss_cons (ps_set (i := 11) scLaw.nd rfl (.inl rfl) (pe_callTy (call_dictP rfl) (by rfl) T.tx.dict b_dict (pa_cons (pe_op op_cat (LiI.pe_listItems (by rfl) (pv 1) (by rfl) T.tx.list b_list) (pe_lst (pa_cons (pe_tup (pa_cons pe_str (pa_cons (pe_tup (pa_cons (pe_tup pa_nil) (pa_cons (pe_tup (pa_cons (pe_tup (pa_cons pe_str (pa_cons pe_str pa_nil))) pa_nil)) pa_nil))) pa_nil))) (pa_cons (pe_tup (pa_cons pe_str (pa_cons (pe_tup (pa_cons (pe_tup (pa_cons (pe_tup (pa_cons pe_str pa_nil)) pa_nil)) (pa_cons (pe_tup (pa_cons (pe_tup (pa_cons pe_str pa_nil)) pa_nil)) pa_nil))) pa_nil))) pa_nil)))) pa_nil)))
      (pss_cons (ps_if (PW.pt (pw_or (pt_not (pt_val (pe_call GR hr (by rfl) T.tx.gRefused T.tx.fRefused.kp bR .nil pass0 (pa_cons (pv 11) (pa_cons (pv 2) (pa_cons (pe_tup (pa_cons pe_str (pa_cons pe_str pa_nil))) (pa_cons pe_str pa_nil))))))) (pw_or1 (pt_not (pt_val (pe_call GR hr (by rfl) T.tx.gRefused T.tx.fRefused.kp bR .nil pass0 (pa_cons pe_dnewK (pa_cons (pv 2) (pa_cons (pe_tup (pa_cons pe_str (pa_cons pe_str pa_nil))) (pa_cons pe_non pa_nil)))))))))) (pss_one (ps_ret pe_bl)) pss_nil)
      (pss_cons (ps_if (pt_not (pt_val (pe_call GR hr (by rfl) T.tx.gRefused T.tx.fRefused.kp bR .nil pass0 (pa_cons (pv 11) (pa_cons (pe_callTy (call_dictP rfl) (by rfl) T.tx.dict b_dict (pa_cons (pe_op op_cat (LiI.pe_listItems (by rfl) (pv 2) (by rfl) T.tx.list b_list) (pe_lst (pa_cons (pe_tup (pa_cons pe_str (pa_cons pe_str pa_nil))) pa_nil))) pa_nil)) (pa_cons (pe_tup (pa_cons pe_str (pa_cons pe_str pa_nil))) (pa_cons pe_str pa_nil))))))) (pss_one (ps_ret pe_bl)) pss_nil)
      (pss_cons (ps_set (i := 12) scLaw.nd rfl (.inl rfl) (pe_callTy (call_dictP rfl) (by rfl) T.tx.dict b_dict (pa_cons (pe_lc (own := [("at", 13)]) (g := gName 13) (tt := tYes) rfl scLaw.nd (pi_range1 (by rfl) T.tx.range (pa_cons pe_int pa_nil)) (blkOk_by (N := nmLaw) (sc := defScope sLaw) (by decide +kernel)) (fun _ _ _ _ _ => pg_name (i := 13) scLaw.nd rfl (Or.inl rfl)) (fun _ _ _ _ _ => pts_nil) (fun _ _ _ _ _ => (pe_tup (pa_cons (pe_op op_add_str pe_str (pe_callTy call_str_int (by rfl) T.tx.str b_str (pa_cons (pv 13) pa_nil))) (pa_cons (pe_tup (pa_cons (pe_tup pa_nil) (pa_cons (pe_tup (pa_cons (pe_tup (pa_cons pe_str pa_nil)) pa_nil)) pa_nil))) pa_nil))))) pa_nil)))
      (pss_one (ps_ret (pe_and (pe_call GR hr (by rfl) T.tx.gRefused T.tx.fRefused.kp bR .nil pass0 (pa_cons (pv 12) (pa_cons (pe_disp (pps_cons pe_str pe_str pps_nil) (by rfl) (by rfl) (by decide) (by decide)) (pa_cons (pe_tup (pa_cons pe_str pa_nil)) (pa_cons pe_non pa_nil))))) (pe_one (pe_cmpR op_eq (pe_callB (cr_lenO GL bL pass0 hr3 T.oLen) (by rfl) T.tx.len PySem.boot_len (pa_cons (pe_make T.tx.mkN GN hr7 (by rfl) T.tx.gNet bN .nil passL (pa_cons (pv 11) (pa_cons (pe_disp (pps_cons pe_str pe_str (pps_cons pe_str pe_str (pps_cons pe_str pe_str pps_nil))) (by rfl) (by rfl) (by decide) (by decide)) (pa_cons (pe_tup (pa_cons pe_str (pa_cons pe_str pa_nil))) pa_nil)))) pa_nil)) (pe_op op_add (pe_callB call_lenD (by rfl) T.tx.len PySem.boot_len (pa_cons (pv 1) pa_nil)) pe_int) (nomark _)))))))))))))))))))))))))), ?_⟩
    have dr : ∀ {σ : L2.St} {H1 : Hp} {E' : XK} {ta tm : TE} {a m : Nat}, SqL K H1 sa (ns.map V.int) → σ[0]? = some (some (.ref sa)) → (∀ H', Same H1 H' → Ev ta σ H' (.int (a : Nat))) → (∀ H', Same H1 H' → Ev tm σ H' (.int (m : Nat))) → a ≤ 100000 → 1 ≤ m → m ≤ 100000 →
        EvN (tCall (spDraw K) [] E' (tCons (tVar 0) (tCons ta (tCons tm tNil)))) σ H1 fun r => r < m := fun hS1 h0 ha hm h1 h2 h3 =>
      evn_draw (ea_cons (ev_tv h0) fun H2 e2 => ea_cons (ha H2 e2) fun H3 e3 => ea_cons (hm H3 (e2.trans e3)) fun _ _ => ea_nil) hS1 hl h1 h2 h3
    refine q_asgR (fun v H' => ∃ p kv ks r, v = .ref p ∧ r < 4 ∧ Same H H' ∧ H' p = some (.dK kv) ∧ Dk H' kv (kd ks) ∧ DKn (1 + r) (1 + r) ks) (fun Q1 q1 => ⟨_, rfl, sa, ns, 0, true, rfl, hS, hl, by decide, fun p kv ks r H' hr4 hp e hk hd dk => q1 _ _ ⟨p, kv, ks, r, rfl, hr4, e, hk, hd, dk⟩⟩) fun v H1 hv => ?_
    obtain ⟨ka, kv, ks, r, rfl, hr4, e1, hka, hdk, dkn⟩ := hv
    have g := gk_of hr4 dkn
    have hkn : kn ks = ab.take (1 + r) := by
      rw [dkn.names, List.take_take]
      congr 1
      omega
    have ksl : ks.length = 1 + r := len_ab g
    have kvl : kv.length = ks.length := by rw [hdk.length]; exact List.length_map _
    have kkeys : kv.map (·.1) = (kn ks).map Sum.inr := by rw [hdk.keys, kd_keys]
    have knl : (kn ks).length = 1 + r := by rw [hkn, ab_len hr4]
    refine q_asgR (fun v H' => ∃ p y, v = .ref p ∧ H1 p = none ∧ Same H1 H' ∧ y ∈ ab.take (1 + r) ∧ H' p = some (.dK (insD y))) (fun Q1 q1 => ?_) fun v H2 hv => ?_
    · refine ⟨_, rfl, _, rfl, sa, ns, 5, ka, kv, kn ks, rfl, Same.seqL e1 hS, hl, by decide, hka, kkeys, by rw [hkn, ab_len hr4]; omega, by rw [hkn, ab_len hr4]; omega, fun p y H' hy hp e hi => q1 _ _ ⟨p, y, rfl, hp, e, by rw [← hkn]; exact hy, hi⟩⟩
    obtain ⟨ia, y, rfl, hia1, e2, hy, hia⟩ := hv
    have gi := gi_is0 (n := 1 + r) (by omega) hy
    have ki : ka ≠ ia := ne_of_none hka hia1
    have sk : srtD (kd ks) = kd ks := srtD_kd g.perm hkn fun _ h => h
    have srev : srtD (kd ks.reverse) = kd ks := srtD_kd (n := 1 + r) ((gk_rev g).perm) hkn fun p h => List.mem_reverse.mpr h
    have srtk : srt (kn ks) = kn ks := by
      rw [hkn]
      exact srt_of_sorted (List.Perm.refl _) (ab_sorted _)
    have lb2 : LB H2 ka ia kv (1 + r) ks y := ⟨g, hkn, hy, ki, e2 _ _ hka, hdk.go e2, hia⟩
    refine q_par2R (R1 := fun v H' => ∃ x, v = .ref x ∧ Same H2 H' ∧ NetAt H' ad.cNet x (kd ks) (id_ (is0 y)) ["o", "p", "q"]) (R2 := fun v w H' => ∃ x p, v = .ref x ∧ w = .ref p ∧ Same H2 H' ∧ NetAt H' ad.cNet x (kd ks) (id_ (is0 y)) ["o", "p", "q"] ∧ H' p = some (.lst ((kn ks).map V.str))) (fun Q1 q1 => ?_) (fun v H3 hv Q1 q1 => ?_) fun v w H3 hv => ?_
    · refine er_net (n := 1 + r) (ks := ks) (is := is0 y) (os := ["p", "o", "q"]) g gi go_poq (fun Q2 q2 => ?_) Q1 fun x H' _ e n => q1 _ _ ⟨x, rfl, e, by have n' := n.net; rw [sk, srtD_is0, srt_poq] at n'; exact n'⟩
      refine ⟨_, rfl, _, rfl, el_strs3 _ fun c H3 _ e3 hc => q2 ka ia c kv (insD y) H3 e3 ki (e3 _ _ (e2 _ _ hka)) (hdk.go (e2.trans e3)) (e3 _ _ hia) dk_is0 (.inl hc)⟩
    · obtain ⟨x, rfl, e3, hn⟩ := hv
      have z := el_sortS (K := K) (el_listD (σ := [some (.ref sa), some (.ref ka), some (.ref ia), none, none, none, none, none, none, none, none, none, none, none]) (ta := tVar 1) (ev_tv rfl) ((lb2.go e3).hk) kkeys) (by omega)
      rw [srtk] at z
      exact z _ fun p H4 _ e4 hp => q1 _ _ ⟨x, p, rfl, rfl, e3.trans e4, hn.go e4, hp⟩
    obtain ⟨na, nl, rfl, rfl, e3, hna, hnl⟩ := hv
    have f : LF K H3 ad.cNet sa ka ia na nl ns kv (1 + r) ks y := ⟨lb2.go e3, Same.seqL (e1.trans (e2.trans e3)) hS, hna, hnl⟩
    have sp := shp_ok g gi go_opq
    have er := eqNet_refl g gi go_opq
    have kdl : (kd ks).length = ks.length := List.length_map _
    have lE : decide (V.int ((kd ks).length : Nat) = V.int (kv.length : Nat)) = true := by
      rw [kdl, kvl]
      exact decide_eq_true rfl
    have kdk : (kd ks).map (fun p => p.1) = kn ks := kd_keys ks
    have okk : ∀ x ∈ kn ks, PyData.strOk x = true := fun x hx => ok_abn (n := 1 + r) (by rw [← hkn]; exact hx)
    have snd : ((kd ks).map fun p => p.1).Nodup := by
      rw [kdk]
      exact nd_ab g
    have lnm : (PyData.list ((kn ks).map PyData.str)).canLay0 = true := lay_strs okk
    have snm : SeqAt.shaped (.list ((kn ks).map PyData.str)) = true := shaped_of lnm (Nat.succ_le_succ (depth_strs _))
    have lij : (PyData.list ((["i", "j"] : List Str).map PyData.str)).canLay0 = true := by decide +kernel
    have sij : SeqAt.shaped (.list ((["i", "j"] : List Str).map PyData.str)) = true := shaped_of lij (Nat.succ_le_succ (depth_strs _))
    have lo : (dOs ["o", "p", "q"]).canLay0 = true := lay_os go_opq
    have so : SeqAt.shaped (dOs ["o", "p", "q"]) = true := shaped_of lo (Nat.succ_le_succ (depth_strs _))
    obtain ⟨dx, oka, oia, ooa, okv, oiv, h1, h2, h3, h4, h5, h6⟩ := f.net.ex
    have okeys : okv.map (·.1) = (kn ks).map Sum.inr := by rw [h3.keys, kdk]
    have oikeys : oiv.map (·.1) = (["i", "j"] : List Str).map Sum.inr := by rw [h5.keys]; rfl
    refine q_no (evb_is (EvB.or (EvB.of' (ev_neDD (K := K) (evd_L (el_listD (ev_fld (K := K) (ev_tv rfl) h1 T.tx.cl T.tx.nKnots kn_f) h2 okeys)) (fun H4 e4 => evd_of (ev_tv rfl) (.lst (e4 _ _ f.nm) (Dts.strs _))) snm snm)) fun _ H4 e4 =>
      EvB.or (EvB.of' (ev_neVV (ev_fld (K := K) (ev_tv rfl) (e4 _ _ h1) T.tx.cl T.tx.nKnots kn_f) (fun _ _ => ev_tv rfl) (e4 _ _ h2) (e4 _ _ f.lb.hk) (h3.go e4) (f.lb.dk.go e4) sp.ks sp.ks)) fun _ H5 e5 =>
      EvB.or (EvB.of' (ev_neDD (K := K) (evd_L (el_listD (ev_fld (K := K) (ev_tv rfl) ((e4.trans e5) _ _ h1) T.tx.cl T.tx.nInlets in_f) ((e4.trans e5) _ _ h4) oikeys)) (fun H6 e6 => evd_L el_strs2) sij sij)) fun _ H6 e6 =>
      EvB.or (EvB.of' (ev_neDD (K := K) (d := dOs ["o", "p", "q"]) (e := dOs ["o", "p", "q"]) (evd_ev (ev_fld (K := K) (ev_tv rfl) ((e4.trans (e5.trans e6)) _ _ h1) T.tx.cl T.tx.nOutlets out_f) fun H7 e7 => .tup ((e4.trans (e5.trans (e6.trans e7))) _ _ h6) (Dts.strs _)) (fun H7 e7 => evd_tupA (eda_cons (evd_of ev_tc (.str _)) fun _ _ => eda_cons (evd_of ev_tc (.str _)) fun _ _ => eda_cons (evd_of ev_tc (.str _)) fun _ _ => eda_nil) (by show 3 ≤ 100000; decide)) so so)) fun _ H7 e7 =>
      EvB.of' (ev_ne (ev_lenN (ev_tv rfl) (f.net.go (e4.trans (e5.trans (e6.trans e7)))) (by omega)) (fun H8 e8 => ev_lenD (ev_tv rfl) ((e4.trans (e5.trans (e6.trans (e7.trans e8)))) _ _ f.lb.hk)) rfl)) ?_) fun H4 e4 => ?_
    · rw [SeqAt.eqv_refl _ lnm, SeqAt.eqv_refl _ lij, SeqAt.eqv_refl _ lo, eqDK_refl snd (lay_kd g), lE]
      rfl
    replace f := f.go e4
    have lookj : ∀ {H' : Hp}, Same H4 H' → H' ia = some (.dK (insD y)) := fun e => e _ _ f.lb.hi
    refine q_no (evb_is (EvB.or (EvB.of' (er_eqN2 (C := ad.cNet) (k2 := kd ks) (i2 := id_ (is0 y)) (o2 := ["o", "p"]) (ev_tv rfl) (fun H5 e5 Q1 q1 => ?_) f.net sp (shp_ok g gi go_op))) fun _ H5 e5 => EvB.of' (ev_eqInt (ev_tv rfl) (f.net.go e5) T.nfI)) (by rw [eqNet_o (by decide +kernel)]; rfl)) fun H5 e5 => ?_
    · refine er_net (n := 1 + r) (ks := ks) (is := is0 y) (os := ["p", "o"]) g gi go_po (fun Q2 q2 => ?_) Q1 fun x H' _ e n => q1 x H' e (by have n' := n.net; rw [sk, srtD_is0, srt_po] at n'; exact n')
      refine ⟨_, rfl, _, rfl, el_strs2 _ fun c H6 _ e6 hc => q2 ka ia c kv (insD y) H6 e6 ki ((e5.trans e6) _ _ f.lb.hk) (f.lb.dk.go (e5.trans e6)) ((e5.trans e6) _ _ f.lb.hi) dk_is0 (.inl hc)⟩
    replace f := f.go e5
    clear lookj
    have ndks := nd_ab g
    have gsome : ∀ z ∈ kn ks, ∃ rr v, (z, rr) ∈ ks ∧ valV kv (.inr z) = some v ∧ Dt H5 v (dRows rr) ∧ ((kd ks).lookup z).getD .none = dRows rr := fun z hz => by
      obtain ⟨⟨z', rr⟩, hm, rfl⟩ := List.mem_map.mp hz
      have e := kd_get ndks hm
      obtain ⟨v, hv, hd⟩ := f.lb.dk.get e
      exact ⟨rr, v, hm, hv, hd, by rw [e]; rfl⟩
    refine q_no (evb_is (EvB.of' (er_neN2 (C := ad.cNet) (k2 := kd ks) (i2 := id_ (is0 y)) (o2 := ["o", "p", "q"]) (ev_tv rfl) (fun H6 e6 Q1 q1 => ?_) f.net sp sp)) (by rw [er]; rfl)) fun H6 e6 => ?_
    · refine er_net (n := 1 + r) (ks := ks.reverse) (is := (is0 y).reverse) (os := ["q", "p", "o"]) (gk_rev g) (gi_is0r (by omega) hy) go_qpo (fun Q2 q2 => ?_) Q1 fun x H' _ e n => q1 x H' e (by have n' := n.net; rw [srev, srtD_is0r, srt_qpo] at n'; exact n')
      have prs := evp_rev (K := K) (σ := [some (.ref sa), some (.ref ka), some (.ref ia), some (.ref na), some (.ref nl), none, none, none, none, none, none, none, none, none]) (H := H6) (j := 5) (zs := kn ks) (tk := tVar 5) (tv := tDGet (tVar 1) (tVar 5)) (fun z => ((kd ks).lookup z).getD .none) (el_listL (K := K) (a := nl) (ta := tVar 4) (ev_tv rfl) (e6 _ _ f.nm)) (by omega) (fun z hz H H' v e hd => by
          obtain ⟨rr, v', _, _, _, e2⟩ := gsome z hz
          rw [e2] at hd ⊢
          exact hd.rows_ts e) (fun _ => rfl) (fun z H' e => ev_tv rfl) (fun z hz H' e => by
          obtain ⟨rr, v', hm, hv, hd, e2⟩ := gsome z hz
          rw [e2]
          exact evd_of (ev_dget (k := .inr z) (ev_tv rfl) (fun _ _ => ev_tv rfl) ((e6.trans e) _ _ f.lb.hk) hv) (hd.go (e6.trans e)))
      rw [rev_kd ndks] at prs
      refine ekd_dict (K := K) prs (by
        have e : keysD (kd ks.reverse) = kn ks.reverse := kd_keys _
        rw [e]
        exact nd_ab (gk_rev g)) _ fun p H7 kvs hp e7 hx hk7 => ?_
      refine ek_disp2 (v1 := .str y) (v2 := .str "a") (fun H8 e8 => ev_dget (k := .inr "j") (ev_tv rfl) (fun _ _ => ev_tc) ((e6.trans (e7.trans e8)) _ _ f.lb.hi) valJ) (fun _ _ => ev_tc) (by decide +kernel) _ fun p2 H8 hp2 e8 hx2 => ?_
      refine eu_tup (vs := [.str "q", .str "p", .str "o"]) (ea_cons ev_tc fun _ _ => ea_cons ev_tc fun _ _ => ea_cons ev_tc fun _ _ => ea_nil) (by show 3 ≤ 100000; decide) _ fun c H9 _ e9 hc => ?_
      exact q2 p p2 c kvs (insD y).reverse H9 (e7.trans (e8.trans e9)) (ne_of_none hx hp2) (e9 _ _ (e8 _ _ hx)) (hk7.go (e8.trans e9)) (e9 _ _ hx2) (.cons (.str y) (.cons (.str _) .nil)) (.inr hc)
    replace f := f.go e6
    have zst : ∀ {σ : L2.St} {H' : Hp} {i : Nat} {x : Addr}, σ[i]? = some (some (.ref x)) → NetAt H' ad.cNet x (kd ks) (id_ (is0 y)) ["o", "p", "q"] → EvK (tMeth ad.cNet "start" (spStart ad.cNet) [] E0 (tVar i) tNil) σ H' (zeros (kn ks)) := fun h0 n => by
      have z := ek_start (E := E0) (ev_tv h0) n snd (by omega)
      rw [kdk] at z
      exact z
    have hao : ("a" : Str) ∈ kn ks := by
      rw [hkn]
      exact a_in (by omega)
    refine q_no (evb_is (EvB.or (EvB.of' (ev_neKD (d2 := zd (kn ks)) (zst rfl f.net) (fun H7 e7 => ekd_dict (K := K) (evp_names (K := K) (tk := tVar 5) (tv := tC (.int 0)) (fun _ => .int 0) (fun Q q => ⟨_, rfl, q nl H7 (Same.refl _) (e7 _ _ f.nm)⟩) (by omega) (fun z hz H H' v e hd => by cases hd; exact .int 0) (fun _ => rfl) (fun z H' e => ev_tv rfl) (fun z hz H' e => evd_of ev_tc (.int 0))) (by
        show (keysD (zd (kn ks))).Nodup
        unfold keysD
        rw [zd_keys]
        exact ndks)) (fun _ => dk_zeros _) (zd_shaped _) (zd_shaped _))) fun _ H7 e7 =>
      EvB.or (EvB.of' (ev_notInN (ev_tc (v := .str "a")) (fun _ _ => ev_tv rfl) (f.net.go e7))) fun _ H8 e8 => EvB.or (EvB.of' (ev_notInN (ev_tc (v := .str "o")) (fun _ _ => ev_tv rfl) (f.net.go (e7.trans e8)))) fun _ H9 e9 =>
      EvB.or (EvB.of' (ev_inN (ev_tc (v := .str "i")) (fun _ _ => ev_tv rfl) (f.net.go (e7.trans (e8.trans e9))))) fun _ H10 e10 => EvB.of' (ev_inNi (ev_tc (v := .int 3)) (fun _ _ => ev_tv rfl) (f.net.go (e7.trans (e8.trans (e9.trans e10)))))) ?_) fun H7 e7 => ?_
    · rw [zd_refl ndks, look_yes hao ndks, look_no g (x := "i") (by decide +kernel)]
      have e1 : decide (("o" : Str) ∈ (["o", "p", "q"] : List Str)) = true := by decide +kernel
      have e2 : decide (("i" : Str) ∈ (["o", "p", "q"] : List Str)) = false := by decide +kernel
      rw [e1, e2, Bool.or_true]
      rfl
    replace f := f.go e7
    refine q_asgR (fun v H' => ∃ z r0, v = .str z ∧ (z, r0) ∈ ks ∧ Same H7 H') (fun Q1 q1 => ?_) fun v H8 hv => ?_
    · refine ⟨_, rfl, dr (a := 300) (m := ((kn ks).map V.str).length) f.hS rfl (fun _ _ => ev_tc) (fun H9 e9 => ev_lenL (K := K) (ev_tv rfl) (e9 _ _ f.nm)) (by decide) (by rw [List.length_map]; omega) (by rw [List.length_map]; omega) _ fun n H8 hn e8 => ?_⟩
      rw [List.length_map] at hn
      have hg : (kn ks)[n]? = some (kn ks)[n] := List.getElem?_eq_getElem hn
      obtain ⟨⟨z', r0⟩, h1, h2⟩ := List.mem_map.mp (List.getElem_mem hn)
      have h2' : z' = (kn ks)[n] := h2
      refine ⟨nl, (kn ks).map V.str, (n : Nat), .str (kn ks)[n], rfl, rfl, SqL.of (e8 _ _ f.nm), atI_nat (by rw [List.getElem?_map, hg]; rfl), q1 _ _ ⟨z', r0, by rw [h2'], h1, e8⟩⟩
    obtain ⟨z, r0, rfl, hzr, e8⟩ := hv
    replace f := f.go e8
    obtain ⟨vz, hvz, dvz⟩ := f.lb.dk.get (kd_get ndks hzr)
    obtain ⟨az, vf, vt, rfl, haz, dvf, dvt⟩ : ∃ az vf vt, vz = .ref az ∧ H8 az = some (.tup [vf, vt]) ∧ Dt H8 vf (dRow r0.1) ∧ Dt H8 vt (dRow r0.2) := by
      cases dvz with
      | @tup a xs _ ha hx =>
        cases hx with
        | cons h k =>
          cases k with
          | cons h2 k =>
            cases k
            exact ⟨a, _, _, rfl, ha, h, h2⟩
    refine q_unpack2 (K := K) (ev_dget (k := .inr z) (ev_tv rfl) (fun _ _ => ev_tv rfl) f.lb.hk hvz) haz fun H9 e9 => ?_
    replace f := f.go e9
    replace dvf := dvf.go e9
    replace dvt := dvt.go e9
    have d0 := dkn.rows _ hzr
    have hzk : z ∈ kn ks := List.mem_map.mpr ⟨_, hzr, rfl⟩
    have l1 : r0.1.length ≤ 2 := d0.l1
    have l2 : 1 ≤ r0.2.length := d0.l2
    have l3 : r0.2.length ≤ 5 := d0.l3
    have m1 : (r0.1.map dDrop).length = r0.1.length := List.length_map _
    have m2 : (r0.2.map dDrop).length = r0.2.length := List.length_map _
    have e13 : (List.replicate 13 (r0.2.map dDrop)).flatten.length = 13 * r0.2.length := by
      rw [List.length_flatten, List.map_replicate, List.sum_replicate_nat, m2]
    refine q_forT (K := K) (R := fun xs H1 => Dts H1 xs [.tuple [dRow r0.1, .tuple []], .tuple [dRow r0.1, .tuple (r0.2.map dDrop ++ [.tuple [.str "zz"]])], .tuple [dRow r0.1, .tuple (r0.2.map dDrop ++ [.str "o"])], .tuple [dRow r0.1, .list (r0.2.map dDrop)], .tuple [dRow r0.1],
        .tuple [dRow r0.1, .tuple (r0.2.map dDrop ++ [.tuple (List.replicate 5 [PyData.str "o"]).flatten])], .tuple [dRow r0.1, .tuple (r0.2.map dDrop ++ [.tuple [.str "i"]])], .tuple [.tuple (r0.1.map dDrop ++ [.tuple [.int 3]]), dRow r0.2], .tuple [dRow r0.1, .tuple ((List.replicate 13 (r0.2.map dDrop)).flatten.take 13)], .none])
      (fun Q1 q1 => er_tupD (eda_cons (evd_tup2 (evd_of (ev_tv rfl) dvf) fun _ _ => evd_tup0) fun H10 e10 =>
        eda_cons (evd_tup2 (evd_of (ev_tv rfl) (dvf.go e10)) fun _ e' => evd_cat (K := K) (evd_of (ev_tv rfl) (dvt.go (e10.trans e'))) (fun _ _ => evd_tup1 (evd_tup1 (evd_of ev_tc (.str _)))) (by show (r0.2.map dDrop).length + 1 ≤ _; omega)) fun H11 e11 =>
        eda_cons (evd_tup2 (evd_of (ev_tv rfl) (dvf.go (e10.trans e11))) fun _ e' => evd_cat (K := K) (evd_of (ev_tv rfl) (dvt.go ((e10.trans e11).trans e'))) (fun _ _ => evd_tup1 (evd_of ev_tc (.str _))) (by show (r0.2.map dDrop).length + 1 ≤ _; omega)) fun H12 e12 =>
        eda_cons (evd_tup2 (evd_of (ev_tv rfl) (dvf.go ((e10.trans e11).trans e12))) fun _ e' => evd_listT (K := K) (evd_of (ev_tv rfl) (dvt.go (((e10.trans e11).trans e12).trans e')))) fun H13 e13' =>
        eda_cons (evd_tup1 (evd_of (ev_tv rfl) (dvf.go (((e10.trans e11).trans e12).trans e13')))) fun H14 e14 =>
        eda_cons (evd_tup2 (evd_of (ev_tv rfl) (dvf.go ((((e10.trans e11).trans e12).trans e13').trans e14))) fun _ e' => evd_cat (K := K) (evd_of (ev_tv rfl) (dvt.go (((((e10.trans e11).trans e12).trans e13').trans e14).trans e'))) (fun _ _ => evd_tup1 (evd_rep (K := K) (k := 5) (evd_tup1 (evd_of ev_tc (.str _))) (by decide) (by decide) (by show 1 ≤ 1; decide) (by show 1 ≤ 1000; decide))) (by show (r0.2.map dDrop).length + 1 ≤ _; omega)) fun H15 e15 =>
        eda_cons (evd_tup2 (evd_of (ev_tv rfl) (dvf.go (((((e10.trans e11).trans e12).trans e13').trans e14).trans e15))) fun _ e' => evd_cat (K := K) (evd_of (ev_tv rfl) (dvt.go ((((((e10.trans e11).trans e12).trans e13').trans e14).trans e15).trans e'))) (fun _ _ => evd_tup1 (evd_tup1 (evd_of ev_tc (.str _)))) (by show (r0.2.map dDrop).length + 1 ≤ _; omega)) fun H16 e16 =>
        eda_cons (evd_tup2 (evd_cat (K := K) (evd_of (ev_tv rfl) (dvf.go ((((((e10.trans e11).trans e12).trans e13').trans e14).trans e15).trans e16))) (fun _ _ => evd_tup1 (evd_tup1 (evd_of ev_tc (.int _)))) (by show (r0.1.map dDrop).length + 1 ≤ _; omega)) fun _ e' => evd_of (ev_tv rfl) (dvt.go (((((((e10.trans e11).trans e12).trans e13').trans e14).trans e15).trans e16).trans e'))) fun H17 e17 =>
        eda_cons (evd_tup2 (evd_of (ev_tv rfl) (dvf.go (((((((e10.trans e11).trans e12).trans e13').trans e14).trans e15).trans e16).trans e17))) fun _ e' => evd_upto (K := K) (c := 13) (evd_rep (K := K) (k := 13) (evd_of (ev_tv rfl) (dvt.go ((((((((e10.trans e11).trans e12).trans e13').trans e14).trans e15).trans e16).trans e17).trans e'))) (by decide) (by decide) (by omega) (by omega)) fun _ _ => ev_tc) fun H18 e18 =>
        eda_cons (evd_of ev_tc .non) fun _ _ => eda_nil) (show 10 ≤ 100000 by decide) Q1 fun p H10 xs hx e hp => q1 p H10 xs hx e hp)
      (fun σ => ∃ x8, σ = [some (.ref sa), some (.ref ka), some (.ref ia), some (.ref na), some (.ref nl), some (.str z), some vf, some vt, x8, none, none, none, none, none]) ⟨_, rfl⟩ (fun H10 xs hxs e10 x σ' H11 hx e11 ok => ?_) (fun σ' H10 ok e10 => ?_)
    · obtain ⟨x8, rfl⟩ := ok
      obtain ⟨d, hd, hdt⟩ := dts_mem hxs x hx
      obtain ⟨bad, sm⟩ := bad_all g l1 l2 l3 d0.ok1 d0.ok2 d hd
      replace hdt := hdt.go e11
      have f11 := f.go (e10.trans e11)
      refine s_no (evb_is (EvB.not (EvB.of (ev_ref (C := ad.cNet) (B := ad.cBad) fun Q q => ?_))) rfl) fun H12 e12 => ⟨⟨_, rfl⟩, e11.trans e12⟩
      refine ek_cat1 (K := K) (k := .inr z) (d := d) (ev_tv rfl) f11.lb.hk (fun _ _ => ev_tv rfl) (fun _ e => evd_of (ev_tv rfl) (hdt.go e)) (by omega) _ fun p v H12 hp e12 hv hpd => ?_
      rw [merge_one f11.lb.nd] at hpd
      refine ⟨_, rfl, ?_⟩
      refine eu_tup (vs := [.str "o", .str "p"]) (ea_cons ev_tc fun _ _ => ea_cons ev_tc fun _ _ => ea_nil) (by show 2 ≤ 100000; decide) _ fun c H13 _ e13 hc => ⟨_, rfl, ?_⟩
      have f13 := f11.go (e12.trans e13)
      exact q p _ _ _ _ H13 (e12.trans e13) (ref_bad f13.lb hzk (e13 _ _ hpd) (hv.go e13) sm bad hc (ne_of_none f11.lb.hi hp).symm) rfl
    · obtain ⟨x8, rfl⟩ := ok
      replace f := f.go e10
      have okn : ∀ z ∈ kn ks, okName z = true := fun z hz => (f.lb.names z hz).1
      have oki : ∀ z ∈ (["i", "j"] : List Str), okName z = true := by decide +kernel
      have ndi : ((insD y).map fun p => p.1).Nodup := by show ([.inr "i", .inr "j"] : List Key).Nodup; decide +kernel
      have one1 : ∀ {σ : L2.St} {H' : Hp}, EvD (tTup (tCons (tTup tNil) (tCons (tTup (tCons (tTup (tCons (tC (.str "o")) tNil)) tNil)) tNil))) σ H' dOne := evd_tup2 evd_tup0 fun _ _ => evd_tup1 (evd_tup1 (evd_of ev_tc (.str _)))
      have opU : ∀ {σ : L2.St} {H' : Hp}, EvU (tTup (tCons (tC (.str "o")) (tCons (tC (.str "p")) tNil))) σ H' [.str "o", .str "p"] := eu_tup (ea_cons ev_tc fun _ _ => ea_cons ev_tc fun _ _ => ea_nil) (by show 2 ≤ 100000; decide)
      have opxU : ∀ {σ : L2.St} {H' : Hp} {tx : TE} {v : V}, (∀ H2, Same H' H2 → Ev tx σ H2 v) → EvU (tTup (tCons (tC (.str "o")) (tCons (tC (.str "p")) (tCons tx tNil)))) σ H' [.str "o", .str "p", v] := fun h => eu_tup (ea_cons ev_tc fun H1 e1 => ea_cons ev_tc fun H2 e2 => ea_cons (h H2 (e1.trans e2)) fun _ _ => ea_nil) (by show 3 ≤ 100000; decide)
      refine q_forTP (K := K) (R := fun xs H1 => Dts H1 xs [.tuple [.str "A", .str "A"], .tuple [.str a17, .str a17], .tuple [.str "1a", .str "1a"], .tuple [.str "", .str ""], .tuple [.int 3, .none]])
        (fun Q1 q1 => er_tupD (eda_cons (evd_tup2 (evd_of ev_tc (.str _)) fun _ _ => evd_of ev_tc (.str _)) fun _ _ => eda_cons (evd_tup2 (evd_of (ev_repS (z := "a") (k := 17) ev_tc (by decide) (by decide) (by decide +kernel) (by decide +kernel) (by decide +kernel)) (.str a17)) fun _ _ => evd_of (ev_repS (z := "a") (k := 17) ev_tc (by decide) (by decide) (by decide +kernel) (by decide +kernel) (by decide +kernel)) (.str a17)) fun _ _ =>
          eda_cons (evd_tup2 (evd_of ev_tc (.str _)) fun _ _ => evd_of ev_tc (.str _)) fun _ _ => eda_cons (evd_tup2 (evd_of ev_tc (.str _)) fun _ _ => evd_of ev_tc (.str _)) fun _ _ => eda_cons (evd_tup2 (evd_of ev_tc (.int _)) fun _ _ => evd_of ev_tc .non) fun _ _ => eda_nil) (show 5 ≤ 100000 by decide) Q1 fun p H10 xs hx e hp => q1 p H10 xs hx e hp)
        (fun σ => ∃ x8 x9 x10, σ = [some (.ref sa), some (.ref ka), some (.ref ia), some (.ref na), some (.ref nl), some (.str z), some vf, some vt, x8, x9, x10, none, none, none]) ⟨_, _, _, rfl⟩ (fun H11 xs hxs e11 x σ' H12 hx e12 ok => ?_) (fun σ' H11 ok e11 => ?_)
      · obtain ⟨x8, x9, x10, rfl⟩ := ok
        obtain ⟨t, ht, htd⟩ := dts_mem hxs x hx
        obtain ⟨k0, d, v, rfl, w, sc, _⟩ := wr_all t ht
        obtain ⟨tx, v1, v2, rfl, hpx, hd1, hd2⟩ : ∃ tx v1 v2, x = .ref tx ∧ H11 tx = some (.tup [v1, v2]) ∧ Dt H11 v1 d ∧ Dt H11 v2 (vD v) := by
          cases htd with
          | @tup a xs _ ha hx =>
            cases hx with
            | cons h k =>
              cases k with
              | cons h2 k =>
                cases k
                exact ⟨a, _, _, rfl, ha, h, h2⟩
        obtain ⟨rfl, rfl⟩ := wr_vals w hd1 hd2
        refine ⟨tx, _, _, rfl, e12 _ _ hpx, ?_⟩
        have f12 := f.go (e11.trans e12)
        refine q_no (evb_is (EvB.not (EvB.of (ev_ref (C := ad.cNet) (B := ad.cBad) fun Q q => ?_))) rfl) fun H13 e13 => ?_
        · refine ek_cat1 (K := K) (k := k0) (d := dOne) (ev_tv rfl) f12.lb.hk (fun _ _ => ev_tv rfl) (fun _ _ => one1) (by omega) _ fun p u H13 hp e13 hv hpd => ?_
          rw [merge_new f12.lb.nd (w.new f12.lb.keys okn)] at hpd
          refine ⟨_, rfl, opU _ fun c H14 _ e14 hc => ⟨_, rfl, ?_⟩⟩
          exact q p _ _ _ _ H14 (e13.trans e14) (ref_wk w (f12.go (e13.trans e14)).lb (e14 _ _ hpd) hc (ne_of_none f12.lb.hi hp).symm) sc
        refine q_no (evb_is (EvB.not (EvB.of (ev_ref (C := ad.cNet) (B := ad.cBad) fun Q q => ?_))) rfl) fun H14 e14 => ?_
        · refine ⟨_, rfl, _, rfl, opxU (fun _ _ => ev_tv rfl) _ fun c H14 _ e14 hc => ⟨_, rfl, ?_⟩⟩
          exact q ka _ _ _ _ H14 e14 (ref_out ((f12.go (e13.trans e14)).lb) hc w.dt (w.err _) w.short) sc
        refine s_no (evb_is (EvB.not (EvB.of (ev_ref (C := ad.cNet) (B := ad.cBad) fun Q q => ?_))) rfl) fun H15 e15 => ⟨⟨_, _, _, rfl⟩, e12.trans (e13.trans (e14.trans e15))⟩
        refine ⟨_, rfl, ?_⟩
        have f14 := f12.go (e13.trans e14)
        refine ek_cat1 (K := K) (k := k0) (d := .str "a") (ev_tv rfl) f14.lb.hi (fun _ _ => ev_tv rfl) (fun _ _ => evd_of ev_tc (.str _)) (by show 2 ≤ 1000; decide) _ fun p u H15 hp e15 hv hpd => ?_
        rw [merge_new ndi (w.new (zs := ["i", "j"]) rfl oki)] at hpd
        refine opU _ fun c H16 _ e16 hc => ⟨_, rfl, ?_⟩
        exact q ka _ _ _ _ H16 (e15.trans e16) (ref_inl w (f14.go (e15.trans e16)).lb (e16 _ _ hpd) (ne_of_none f14.lb.hk hp) hc) sc
      · obtain ⟨x8, x9, x10, rfl⟩ := ok
        replace f := f.go e11
        have strA : ∀ {x : Str}, Short x → ∀ z, PyData.str x = .str z → Short z := fun h z e => by cases e; exact h
        have so1 : Short "o" := short_op _ List.mem_cons_self
        refine q_no (evb_is (EvB.or (EvB.not (EvB.of (ev_ref (C := ad.cNet) (B := ad.cBad) fun Q q => ?_))) fun _ H12 e12 => EvB.not (EvB.of (ev_ref (C := ad.cNet) (B := ad.cBad) fun Q q => ?_))) rfl) fun H12 e12 => ?_
        · refine ⟨_, rfl, _, rfl, opxU (v := .str "o") (fun _ _ => ev_tc) _ fun c H14 _ e14 hc => ?_⟩
          exact q ka _ _ _ _ H14 e14 (ref_out ((f.go e14).lb) hc (.str "o") (fun rest => nameErr_bad (.inr (List.mem_append_right _ List.mem_cons_self))) (strA so1)) rfl
        · refine ⟨_, rfl, _, rfl, opxU (v := .str z) (fun _ _ => ev_tv rfl) _ fun c H14 _ e14 hc => ⟨_, rfl, ?_⟩⟩
          exact q ka _ _ _ _ H14 e14 (ref_out ((f.go (e12.trans e14)).lb) hc (.str z) (fun rest => nameErr_bad (.inr (List.mem_append_left _ hzk))) (strA (f.lb.names z hzk).2)) rfl
        replace f := f.go e12
        refine q_no (evb_is (EvB.not (EvB.of (ev_ref (C := ad.cNet) (B := ad.cBad) fun Q q => ?_))) rfl) fun H13 e13 => ?_
        · refine ⟨_, rfl, ek_disp1 (v1 := .str "a") (fun _ _ => ev_tc) _ fun b H13 hb e13 hbd => opU _ fun c H14 _ e14 hc => ?_⟩
          exact q ka _ _ _ _ H14 (e13.trans e14) (ref_inA (f.go (e13.trans e14)).lb (e14 _ _ hbd) (ne_of_none f.lb.hk hb) hc) rfl
        replace f := f.go e13
        refine q_no (evb_is (EvB.or (EvB.not (EvB.of (ev_ref (C := ad.cNet) (B := ad.cBad) fun Q q => ?_))) fun _ H14 e14 => EvB.not (EvB.of (ev_ref (C := ad.cNet) (B := ad.cBad) fun Q q => ?_))) rfl) fun H14 e14 => ?_
        · refine ⟨_, rfl, ek_disp2 (v1 := .str "a") (v2 := .str "o") (fun _ _ => ev_tc) (fun _ _ => ev_tc) (by decide +kernel) _ fun b H14 hb e14 hbd => opU _ fun c H15 _ e15 hc => ?_⟩
          exact q ka _ _ _ _ H15 (e14.trans e15) (ref_ko (f.go (e14.trans e15)).lb (e15 _ _ hbd) (ne_of_none f.lb.hk hb) hc) rfl
        · refine ⟨_, rfl, fun b hb => opU _ fun c H15 _ e15 hc => ?_⟩
          have e := (same_upd (o := HO.dK []) hb).trans e15
          exact q ka _ _ _ _ H15 e (ref_kinds (n := some 0) (q := true) (e _ _ (f.go e14).lb.hk) (.inl ⟨b, [], rfl, e15 _ _ upd_same, rfl⟩) (.inl ⟨c, _, rfl, .inr hc, rfl⟩) (by unfold kindsOk; simp)) rfl
        replace f := f.go e14
        refine q_no (evb_is (EvB.or (EvB.not (EvB.of (ev_ref (C := ad.cNet) (B := ad.cBad) fun Q q => ?_))) fun _ H15 e15 => EvB.not (EvB.of (ev_ref (C := ad.cNet) (B := ad.cBad) fun Q q => ?_))) rfl) fun H15 e15 => ?_
        · refine ⟨_, rfl, el_nil _ fun b H15 hb e15 hbd => opU _ fun c H16 _ e16 hc => ?_⟩
          exact q ka _ _ _ _ H16 (e15.trans e16) (ref_kinds (n := none) (q := true) ((f.go (e15.trans e16)).lb.hk) (.inr ⟨b, [], rfl, e16 _ _ hbd, rfl⟩) (.inl ⟨c, _, rfl, .inr hc, rfl⟩) (by unfold kindsOk; simp)) rfl
        · refine ⟨_, rfl, _, rfl, ?_⟩
          exact q ka _ _ _ _ H15 (Same.refl _) (ref_kinds (n := some 2) (q := false) ((f.go e15).lb.hk) (.inl ⟨ia, _, rfl, (f.go e15).lb.hi, rfl⟩) (.inr ⟨"op", rfl, rfl⟩) (by unfold kindsOk; simp)) rfl
        replace f := f.go e15
        refine q_no (evb_is (EvB.not (EvB.of (ev_ref (C := ad.cNet) (B := ad.cBad) fun Q q => ?_))) rfl) fun H16 e16 => ?_
        · refine ⟨_, rfl, ?_⟩
          refine ek_cat1 (K := K) (k := .inr "1x") (d := .str "a") (ev_tv rfl) f.lb.hi (fun _ _ => ev_tc) (fun _ _ => evd_of ev_tc (.str _)) (by show 2 ≤ 1000; decide) _ fun p u H16 hp e16 hv hpd => ?_
          rw [merge_new ndi (not_inr (x := "1x") (l := ["i", "j"]) (by decide +kernel))] at hpd
          refine opxU (v := .str "2y") (fun _ _ => ev_tc) _ fun c H17 _ e17 hc => ?_
          exact q ka _ _ _ _ H17 (e16.trans e17) (ref_2y (f.go (e16.trans e17)).lb (e17 _ _ hpd) (ne_of_none f.lb.hk hp) hc) rfl
        replace f := f.go e16
        refine q_asgR (fun v H' => ∃ p kw, v = .ref p ∧ H16 p = none ∧ Same H16 H' ∧ H' p = some (.dK kw) ∧ Dk H' kw (kd (ks ++ lz))) (fun Q1 q1 => ?_) fun v H17 hv => ?_
        · refine ek_cat2 (K := K) (k := .inr "z") (k2 := .inr "y") (d := dRows ([], [["z", "o"]])) (d2 := dRows ([["z"]], [["o"]])) (ev_tv rfl) f.lb.hk (fun _ _ => ev_tc) (fun _ _ => evd_tup2 evd_tup0 fun _ _ => evd_tup1 (evd_tup2 (evd_of ev_tc (.str _)) fun _ _ => evd_of ev_tc (.str _))) (fun _ _ => ev_tc) (fun _ _ => evd_tup2 (evd_tup1 (evd_tup1 (evd_of ev_tc (.str _)))) fun _ _ => evd_tup1 (evd_tup1 (evd_of ev_tc (.str _)))) (by omega) _ fun p v v2 H17 hp e17 hv hv2 hpd => ?_
          have hnk : ((kv ++ [((.inr "z" : Key), v), (.inr "y", v2)]).map fun p => p.1).Nodup := by
            rw [List.map_append]
            show (kv.map (fun p => p.1) ++ ([.inr "z", .inr "y"] : List Key)).Nodup
            have kk : kv.map (fun p => p.1) = (kn ks).map Sum.inr := f.lb.keys
            rw [kk]
            have nd := (lone_ok (1 + r) (by omega) (by omega) _ (.inl rfl)).1
            have nd2 := (List.nodup_append.mp (List.nodup_append.mp nd).1).1
            rw [← hkn] at nd2
            have q := List.pairwise_map.mpr (List.Pairwise.imp (fun ne e => ne (Sum.inr.inj e)) nd2 : List.Pairwise (fun a b : Str => (Sum.inr a : Key) ≠ Sum.inr b) (kn ks ++ (["z", "y"] : List Str)))
            rw [List.map_append] at q
            exact q
          rw [merge_nd0 hnk] at hpd
          refine q1 _ _ ⟨p, _, rfl, hp, e17, hpd, ?_⟩
          unfold kd
          rw [List.map_append]
          exact (f.lb.dk.go e17).append (.cons hv (.cons hv2 .nil))
        obtain ⟨la, kw, rfl, hla, e17, hlw, hlk⟩ := hv
        have lai : la ≠ ia := (ne_of_none f.lb.hi hla).symm
        replace f := f.go e17
        refine q_no (evb_is (EvB.or (EvB.not (EvB.of (ev_ref (C := ad.cNet) (B := ad.cBad) fun Q q => ?_))) fun _ H18 e18 => EvB.not (EvB.of (ev_ref (C := ad.cNet) (B := ad.cBad) fun Q q => ?_))) rfl) fun H18 e18 => ?_
        · refine ⟨_, rfl, _, rfl, opU _ fun c H18 _ e18 hc => ?_⟩
          exact q la _ _ _ _ H18 e18 (ref_loneY (f.go e18).lb lai (e18 _ _ hlw) (hlk.go e18) hc) rfl
        · refine fun b hb => ⟨_, rfl, opU _ fun c H19 _ e19 hc => ?_⟩
          have e := (same_upd (o := HO.dK []) hb).trans e19
          exact q b _ _ _ _ H19 e (ref_kinds (n := some 2) (q := true) (e19 _ _ upd_same) (.inl ⟨ia, _, rfl, e _ _ (f.go e18).lb.hi, rfl⟩) (.inl ⟨c, _, rfl, .inr hc, rfl⟩) (by unfold kindsOk; simp)) rfl
        replace f := f.go e18
        replace hlw := e18 _ _ hlw
        replace hlk := hlk.go e18
        refine q_no (evb_is (EvB.not (EvB.of (ev_ref (C := ad.cNet) (B := ad.cBad) fun Q q => ?_))) rfl) fun H19 e19 => ?_
        · refine ⟨_, rfl, ?_⟩
          refine ek_cat1 (K := K) (k := .inr "k") (d := .str "y") (ev_tv rfl) f.lb.hi (fun _ _ => ev_tc) (fun _ _ => evd_of ev_tc (.str _)) (by show 2 ≤ 1000; decide) _ fun p u H19 hp e19 hv hpd => ?_
          cases hv
          rw [merge_new ndi (not_inr (x := "k") (l := ["i", "j"]) (by decide +kernel))] at hpd
          refine opU _ fun c H20 _ e20 hc => ?_
          exact q la _ _ _ _ H20 (e19.trans e20) (ref_loneZ (f.go (e19.trans e20)).lb (ne_of_none hlw hp) ((e19.trans e20) _ _ hlw) (hlk.go (e19.trans e20)) (e20 _ _ hpd) hc) rfl
        replace f := f.go e19
        replace hlw := e19 _ _ hlw
        replace hlk := hlk.go e19
        refine q_asgR (fun v H' => ∃ p km, v = .ref p ∧ Same H19 H' ∧ H' p = some (.dK km) ∧ Dk H' km dMany) (fun Q1 q1 => ekd_many (K := K) (fun _ => rfl) (fun _ => rfl) (fun _ _ _ => one1) _ fun p H20 km hp e20 hx hk => q1 _ _ ⟨p, km, rfl, e20, hx, hk⟩) fun v H20 hv => ?_
        obtain ⟨ma, km, rfl, e20, hmx, hmk⟩ := hv
        replace f := f.go e20
        replace hlw := e20 _ _ hlw
        replace hlk := hlk.go e20
        refine s_ret (ev_is (Ev.andV (b := true) (ev_ref (C := ad.cNet) (B := ad.cBad) fun Q q => ?_) fun _ H21 e21 => ?_) rfl) fun H' _ => k H'
        · refine ⟨_, rfl, ek_disp1 (v1 := .str "k0") (fun _ _ => ev_tc) _ fun b H21 hb e21 hbd => ?_⟩
          refine eu_tup (vs := [.str "o"]) (ea_cons ev_tc fun _ _ => ea_nil) (by show 1 ≤ 100000; decide) _ fun c H22 _ e22 hc => ?_
          have ml := hmk.length
          have ml13 : km.length = 13 := ml
          exact q ma _ _ _ _ H22 (e21.trans e22) (ref_kinds (n := some 1) (q := true) ((e21.trans e22) _ _ hmx) (.inl ⟨b, _, rfl, e22 _ _ hbd, rfl⟩) (.inl ⟨c, _, rfl, .inr hc, rfl⟩) (by rw [ml13]; decide)) rfl
        · have f21 := f.go e21
          have e2 : ((kd (ks ++ lz)).length : Int) = ((kv.length : Nat) : Int) + 2 := by
            have : (kd (ks ++ lz)).length = kv.length + 2 := by
              show ((ks ++ lz).map _).length = _
              rw [List.length_map, List.length_append, kvl]
              rfl
            omega
          refine ev_is (ev_eq (x := .int ((kd (ks ++ lz)).length : Nat)) (y := .int (((kv.length : Nat) : Int) + 2)) (ev_lenR (C := ad.cNet) (m := (kd (ks ++ lz)).length) (fun Q1 q1 => ?_) (by omega)) (fun H22 e22 => ev_I0 (ev_lenD (ev_tv rfl) (f21.go e22).lb.hk) fun _ _ => ev_tc) rfl) (by rw [e2, decide_eq_true rfl])
          refine er_netG (ks := ks ++ lz) (is := isZ) (os := ["o", "p"]) (ok_lone f.lb (li_Z f.lb)) (met_lone f.lb) (fun Q2 q2 => ?_) Q1 fun x H' _ e n => q1 x _ _ _ H' e n.net (srtD_len _)
          refine ⟨_, rfl, ?_⟩
          refine ek_disp3 (v1 := .str "a") (v2 := .str "y") (v3 := .str "z") (fun _ _ => ev_tc) (fun _ _ => ev_tc) (fun _ _ => ev_tc) (by decide +kernel) _ fun b H22 hb e22 hbd => opU _ fun c H23 _ e23 hc => ?_
          have e := e22.trans e23
          exact q2 la b c kw _ H23 e (in_lone (f21.go e).lb (li_Z f.lb) (ne_of_none (e21 _ _ hlw) hb) (e _ _ (e21 _ _ hlw)) (hlk.go (e21.trans e)) (e23 _ _ hbd) (.cons (.str _) (.cons (.str _) (.cons (.str _) .nil)))) (.inr hc)
end
end Bc

namespace Bc
open PySem L2
/-- an error of the class at S is what «except S» names -/
theorem exm_selfB {K : PySem.W.Frag} {S : Addr} (h1 : PySem.W.subIn K (.ref S) (.type "BaseException") = some true) (h2 : PySem.W.isClsIn K S = true) (h3 : PySem.W.typeIn K (.ref S) = some (.type "type")) (h4 : PySem.W.subIn K (.ref S) (.ref S) = some true) :
    PySem.W.exmOne K (.ref S) (.ref S) = some true := by
  have e1 : (PySem.W.subIn K (.ref S) (.type "BaseException") == some true) = true := by rw [h1] <;> rfl
  have e2 : ((PySem.W.clsIn K S).isSome && PySem.W.typeIn K (.ref S) == some (.type "type")) = true := by
    have h2' : (PySem.W.clsIn K S).isSome = true := h2
    rw [h2', h3] <;> rfl
  show (if (PySem.W.subIn K (.ref S) (.type "BaseException") == some true) = true then (if ((PySem.W.clsIn K S).isSome && PySem.W.typeIn K (.ref S) == some (.type "type")) = true then PySem.W.subIn K (.ref S) (.ref S) else none) else none) = some true
  rw [if_pos e1, if_pos e2]
  exact h4
set_option maxHeartbeats 8000000 in
theorem all_mk {l : PySem.W.OpenLaw} {w : World} {K : PySem.W.Frag} {h : Heap} {mg : Str → Option Value} {fa C : Addr} (X : K.In h) (G : h.Ns mainGlobals mg) (hfa : mg "law" = some (.ref fa))
    {f0 : Addr} {od0 an0 : Option Addr} {sl0 : Array (Option Value)} {oc0 kV0 dc0 pm0 cd0 ct0 : Value}
    {f1 : Addr} {od1 an1 : Option Addr} {sl1 : Array (Option Value)} {oc1 kV1 dc1 pm1 cd1 ct1 : Value}
    {f2 : Addr} {od2 an2 : Option Addr} {sl2 : Array (Option Value)} {oc2 kV2 dc2 pm2 cd2 ct2 : Value}
    {f3 : Addr} {od3 an3 : Option Addr} {sl3 : Array (Option Value)} {oc3 kV3 dc3 pm3 cd3 ct3 : Value}
    {f4 : Addr} {od4 an4 : Option Addr} {sl4 : Array (Option Value)} {oc4 kV4 dc4 pm4 cd4 ct4 : Value}
    {f5 : Addr} {od5 an5 : Option Addr} {sl5 : Array (Option Value)} {oc5 kV5 dc5 pm5 cd5 ct5 : Value}
    {f6 : Addr} {od6 an6 : Option Addr} {sl6 : Array (Option Value)} {oc6 kV6 dc6 pm6 cd6 ct6 : Value}
    {f7 : Addr} {od7 an7 : Option Addr} {sl7 : Array (Option Value)} {oc7 kV7 dc7 pm7 cd7 ct7 : Value}
    {f8 : Addr} {od8 an8 : Option Addr} {sl8 : Array (Option Value)} {oc8 kV8 dc8 pm8 cd8 ct8 : Value}
    {f9 : Addr} {od9 an9 : Option Addr} {sl9 : Array (Option Value)} {oc9 kV9 dc9 pm9 cd9 ct9 : Value}
    {f10 : Addr} {od10 an10 : Option Addr} {sl10 : Array (Option Value)} {oc10 kV10 dc10 pm10 cd10 ct10 : Value}
    {f11 : Addr} {od11 an11 : Option Addr} {sl11 : Array (Option Value)} {oc11 kV11 dc11 pm11 cd11 ct11 : Value}
    {f12 : Addr} {od12 an12 : Option Addr} {sl12 : Array (Option Value)} {oc12 kV12 dc12 pm12 cd12 ct12 : Value}
    {f13 : Addr} {od13 an13 : Option Addr} {sl13 : Array (Option Value)} {oc13 kV13 dc13 pm13 cd13 ct13 : Value}
    {f14 : Addr} {od14 an14 : Option Addr} {sl14 : Array (Option Value)} {oc14 kV14 dc14 pm14 cd14 ct14 : Value}
    {f15 : Addr} {od15 an15 : Option Addr} {sl15 : Array (Option Value)} {oc15 kV15 dc15 pm15 cd15 ct15 : Value}
    {f16 : Addr} {od16 an16 : Option Addr} {sl16 : Array (Option Value)} {oc16 kV16 dc16 pm16 cd16 ct16 : Value}
    {f17 : Addr} {od17 an17 : Option Addr} {sl17 : Array (Option Value)} {oc17 kV17 dc17 pm17 cd17 ct17 : Value}
    {f18 : Addr} {od18 an18 : Option Addr} {sl18 : Array (Option Value)} {oc18 kV18 dc18 pm18 cd18 ct18 : Value}
    {f19 : Addr} {od19 an19 : Option Addr} {sl19 : Array (Option Value)} {oc19 kV19 dc19 pm19 cd19 ct19 : Value}
    {f20 : Addr} {od20 an20 : Option Addr} {sl20 : Array (Option Value)} {oc20 kV20 dc20 pm20 cd20 ct20 : Value}
    {t0 t1 t2 t3 t4 t5 : Tok}
    {nm q : Str} {N : Addr} {bs bm : List Value} {hdct : Bool} {sn : List Str} {sub : List Value} {ab : Bool} {col : Option Bool} {dd : Option Addr} {m0 m1 m2 m3 m5 : Option Value} {newId : String}
    {B fI cc cda : Addr} {file : Str} {bnm bq : Str} {bN : Addr} {bbs bbm : List Value} {bsn : List Str} {bsub : List Value} {bab : Bool} {bcol : Option Bool} {bdd : Option Addr} {b0 b1 b2 b3 b5 : Option Value}
    {boc bdoc bpm bct : Value} {bod ban : Option Addr} {bosl : Array (Option Value)} {p1 p2 : Pos} {ccl : Value} {cdd : Option Addr} {vs : Array Value} {ccs : Array (Option Value)} {tf : Tok} {cl : Value} {cld : Option Addr} {csl : Array (Option Value)}
    {Ch : Addr} {cnm cq : Str} {cN : Addr} {cbs cbm : List Value} {chd : Bool} {csn : List Str} {csub : List Value} {cab : Bool} {ccol : Option Bool} {cdd2 : Option Addr} {c_0 c_1 c_2 c_3 c_5 : Option Value} {cId : String}
    (aC : PySem.W.nsIn K mainGlobals "Net" = some (some (.ref C)))
    (a0 : PySem.W.nsIn K mainGlobals "leaders" = some (some (.ref f0)))
    (l0 : K.lookup f0 = some ⟨oc0, od0, .func (PySem.W.fnOf "leaders" "leaders" (defArgs sLeaders) (defBody sLeaders) (defScope sLeaders) .none kV0 dc0 pm0 an0 cd0 ct0), sl0⟩)
    (c0 : PySem.W.codeIn K cd0 "leaders" = true)
    (k0 : PySem.W.keepIn K (.ref f0) = true)
    (a1 : PySem.W.nsIn K mainGlobals "met_by_turn" = some (some (.ref f1)))
    (l1 : K.lookup f1 = some ⟨oc1, od1, .func (PySem.W.fnOf "met_by_turn" "met_by_turn" (defArgs sMet) (defBody sMet) (defScope sMet) .none kV1 dc1 pm1 an1 cd1 ct1), sl1⟩)
    (c1 : PySem.W.codeIn K cd1 "met_by_turn" = true)
    (k1 : PySem.W.keepIn K (.ref f1) = true)
    (a2 : PySem.W.nsIn K mainGlobals "check_kinds" = some (some (.ref f2)))
    (l2 : K.lookup f2 = some ⟨oc2, od2, .func (PySem.W.fnOf "check_kinds" "check_kinds" (defArgs sKinds) (defBody sKinds) (defScope sKinds) .none kV2 dc2 pm2 an2 cd2 ct2), sl2⟩)
    (c2 : PySem.W.codeIn K cd2 "check_kinds" = true)
    (k2 : PySem.W.keepIn K (.ref f2) = true)
    (a3 : PySem.W.nsIn K mainGlobals "check_names" = some (some (.ref f3)))
    (l3 : K.lookup f3 = some ⟨oc3, od3, .func (PySem.W.fnOf "check_names" "check_names" (defArgs sNames) (defBody sNames) (defScope sNames) .none kV3 dc3 pm3 an3 cd3 ct3), sl3⟩)
    (c3 : PySem.W.codeIn K cd3 "check_names" = true)
    (k3 : PySem.W.keepIn K (.ref f3) = true)
    (a4 : PySem.W.nsIn K mainGlobals "is_name" = some (some (.ref f4)))
    (l4 : K.lookup f4 = some ⟨oc4, od4, .func (PySem.W.fnOf "is_name" "is_name" (defArgs sIsName) (defBody sIsName) (defScope sIsName) .none kV4 dc4 pm4 an4 cd4 ct4), sl4⟩)
    (c4 : PySem.W.codeIn K cd4 "is_name" = true)
    (k4 : PySem.W.keepIn K (.ref f4) = true)
    (a5 : PySem.W.nsIn K mainGlobals "check_rows" = some (some (.ref f5)))
    (l5 : K.lookup f5 = some ⟨oc5, od5, .func (PySem.W.fnOf "check_rows" "check_rows" (defArgs sRows) (defBody sRows) (defScope sRows) .none kV5 dc5 pm5 an5 cd5 ct5), sl5⟩)
    (c5 : PySem.W.codeIn K cd5 "check_rows" = true)
    (k5 : PySem.W.keepIn K (.ref f5) = true)
    (a6 : PySem.W.nsIn K mainGlobals "are_rows" = some (some (.ref f6)))
    (l6 : K.lookup f6 = some ⟨oc6, od6, .func (PySem.W.fnOf "are_rows" "are_rows" (defArgs sAreRows) (defBody sAreRows) (defScope sAreRows) .none kV6 dc6 pm6 an6 cd6 ct6), sl6⟩)
    (c6 : PySem.W.codeIn K cd6 "are_rows" = true)
    (k6 : PySem.W.keepIn K (.ref f6) = true)
    (a7 : PySem.W.nsIn K mainGlobals "is_row" = some (some (.ref f7)))
    (l7 : K.lookup f7 = some ⟨oc7, od7, .func (PySem.W.fnOf "is_row" "is_row" (defArgs sIsRow) (defBody sIsRow) (defScope sIsRow) .none kV7 dc7 pm7 an7 cd7 ct7), sl7⟩)
    (c7 : PySem.W.codeIn K cd7 "is_row" = true)
    (k7 : PySem.W.keepIn K (.ref f7) = true)
    (a8 : PySem.W.nsIn K mainGlobals "is_drop" = some (some (.ref f8)))
    (l8 : K.lookup f8 = some ⟨oc8, od8, .func (PySem.W.fnOf "is_drop" "is_drop" (defArgs sIsDrop) (defBody sIsDrop) (defScope sIsDrop) .none kV8 dc8 pm8 an8 cd8 ct8), sl8⟩)
    (c8 : PySem.W.codeIn K cd8 "is_drop" = true)
    (k8 : PySem.W.keepIn K (.ref f8) = true)
    (a9 : PySem.W.nsIn K mainGlobals "check_inlets" = some (some (.ref f9)))
    (l9 : K.lookup f9 = some ⟨oc9, od9, .func (PySem.W.fnOf "check_inlets" "check_inlets" (defArgs sInlets) (defBody sInlets) (defScope sInlets) .none kV9 dc9 pm9 an9 cd9 ct9), sl9⟩)
    (c9 : PySem.W.codeIn K cd9 "check_inlets" = true)
    (k9 : PySem.W.keepIn K (.ref f9) = true)
    (a10 : PySem.W.nsIn K mainGlobals "check_met" = some (some (.ref f10)))
    (l10 : K.lookup f10 = some ⟨oc10, od10, .func (PySem.W.fnOf "check_met" "check_met" (defArgs sChMet) (defBody sChMet) (defScope sChMet) .none kV10 dc10 pm10 an10 cd10 ct10), sl10⟩)
    (c10 : PySem.W.codeIn K cd10 "check_met" = true)
    (k10 : PySem.W.keepIn K (.ref f10) = true)
    (a11 : PySem.W.nsIn K mainGlobals "_law_draw" = some (some (.ref f11)))
    (l11 : K.lookup f11 = some ⟨oc11, od11, .func (PySem.W.fnOf "_law_draw" "_law_draw" (defArgs sDraw) (defBody sDraw) (defScope sDraw) .none kV11 dc11 pm11 an11 cd11 ct11), sl11⟩)
    (c11 : PySem.W.codeIn K cd11 "_law_draw" = true)
    (k11 : PySem.W.keepIn K (.ref f11) = true)
    (a12 : PySem.W.nsIn K mainGlobals "_law_knots" = some (some (.ref f12)))
    (l12 : K.lookup f12 = some ⟨oc12, od12, .func (PySem.W.fnOf "_law_knots" "_law_knots" (defArgs sLKnots) (defBody sLKnots) (defScope sLKnots) .none kV12 dc12 pm12 an12 cd12 ct12), sl12⟩)
    (c12 : PySem.W.codeIn K cd12 "_law_knots" = true)
    (k12 : PySem.W.keepIn K (.ref f12) = true)
    (a13 : PySem.W.nsIn K mainGlobals "_law_inlets" = some (some (.ref f13)))
    (l13 : K.lookup f13 = some ⟨oc13, od13, .func (PySem.W.fnOf "_law_inlets" "_law_inlets" (defArgs sLInlets) (defBody sLInlets) (defScope sLInlets) .none kV13 dc13 pm13 an13 cd13 ct13), sl13⟩)
    (c13 : PySem.W.codeIn K cd13 "_law_inlets" = true)
    (k13 : PySem.W.keepIn K (.ref f13) = true)
    (a14 : PySem.W.nsIn K mainGlobals "_law_refused" = some (some (.ref f14)))
    (l14 : K.lookup f14 = some ⟨oc14, od14, .func (PySem.W.fnOf "_law_refused" "_law_refused" (defArgs sTurned) (defBody sTurned) (defScope sTurned) .none kV14 dc14 pm14 an14 cd14 ct14), sl14⟩)
    (c14 : PySem.W.codeIn K cd14 "_law_refused" = true)
    (k14 : PySem.W.keepIn K (.ref f14) = true)
    (a15 : PySem.W.nsIn K mainGlobals "law" = some (some (.ref f15)))
    (l15 : K.lookup f15 = some ⟨oc15, od15, .func (PySem.W.fnOf "law" "law" (defArgs sLaw) (defBody sLaw) (defScope sLaw) .none kV15 dc15 pm15 an15 cd15 ct15), sl15⟩)
    (c15 : PySem.W.codeIn K cd15 "law" = true)
    (k15 : PySem.W.keepIn K (.ref f15) = true)
    (a16 : PySem.W.findIn K (.ref C) "__init__" = some (some (.ref f16)))
    (i16 : PySem.W.isFn K (.ref f16) = true)
    (l16 : K.lookup f16 = some ⟨oc16, od16, .func (PySem.W.fnOf "__init__" "Net.__init__" (defArgs sInit) (defBody sInit) (defScope sInit) .none kV16 dc16 pm16 an16 cd16 ct16), sl16⟩)
    (c16 : PySem.W.codeIn K cd16 "Net.__init__" = true)
    (k16 : PySem.W.keepIn K (.ref f16) = true)
    (a17 : PySem.W.findIn K (.ref C) "start" = some (some (.ref f17)))
    (i17 : PySem.W.isFn K (.ref f17) = true)
    (l17 : K.lookup f17 = some ⟨oc17, od17, .func (PySem.W.fnOf "start" "Net.start" (defArgs sStart) (defBody sStart) (defScope sStart) .none kV17 dc17 pm17 an17 cd17 ct17), sl17⟩)
    (c17 : PySem.W.codeIn K cd17 "Net.start" = true)
    (k17 : PySem.W.keepIn K (.ref f17) = true)
    (a18 : PySem.W.findIn K (.ref C) "__len__" = some (some (.ref f18)))
    (i18 : PySem.W.isFn K (.ref f18) = true)
    (l18 : K.lookup f18 = some ⟨oc18, od18, .func (PySem.W.fnOf "__len__" "Net.__len__" (defArgs sLen) (defBody sLen) (defScope sLen) .none kV18 dc18 pm18 an18 cd18 ct18), sl18⟩)
    (c18 : PySem.W.codeIn K cd18 "Net.__len__" = true)
    (k18 : PySem.W.keepIn K (.ref f18) = true)
    (a19 : PySem.W.findIn K (.ref C) "__contains__" = some (some (.ref f19)))
    (i19 : PySem.W.isFn K (.ref f19) = true)
    (l19 : K.lookup f19 = some ⟨oc19, od19, .func (PySem.W.fnOf "__contains__" "Net.__contains__" (defArgs sHas) (defBody sHas) (defScope sHas) .none kV19 dc19 pm19 an19 cd19 ct19), sl19⟩)
    (c19 : PySem.W.codeIn K cd19 "Net.__contains__" = true)
    (k19 : PySem.W.keepIn K (.ref f19) = true)
    (a20 : PySem.W.findIn K (.ref C) "__eq__" = some (some (.ref f20)))
    (i20 : PySem.W.isFn K (.ref f20) = true)
    (l20 : K.lookup f20 = some ⟨oc20, od20, .func (PySem.W.fnOf "__eq__" "Net.__eq__" (defArgs sEq) (defBody sEq) (defScope sEq) .none kV20 dc20 pm20 an20 cd20 ct20), sl20⟩)
    (c20 : PySem.W.codeIn K cd20 "Net.__eq__" = true)
    (k20 : PySem.W.keepIn K (.ref f20) = true)
    (z_isinstance : PySem.W.nsIn K mainGlobals "isinstance" = some none)
    (z_len : PySem.W.nsIn K mainGlobals "len" = some none)
    (z_all : PySem.W.nsIn K mainGlobals "all" = some none)
    (z_sorted : PySem.W.nsIn K mainGlobals "sorted" = some none)
    (z_list : PySem.W.nsIn K mainGlobals "list" = some none)
    (z_tuple : PySem.W.nsIn K mainGlobals "tuple" = some none)
    (z_dict : PySem.W.nsIn K mainGlobals "dict" = some none)
    (z_str : PySem.W.nsIn K mainGlobals "str" = some none)
    (z_int : PySem.W.nsIn K mainGlobals "int" = some none)
    (z_range : PySem.W.nsIn K mainGlobals "range" = some none)
    (z_enumerate : PySem.W.nsIn K mainGlobals "enumerate" = some none)
    (z_reversed : PySem.W.nsIn K mainGlobals "reversed" = some none)
    (z_super : PySem.W.nsIn K mainGlobals "super" = some none)
    (y_mKnots : PySem.W.nsIn K mainGlobals "MOST_KNOTS" = some (some (.int 12 t0)))
    (y_mDrops : PySem.W.nsIn K mainGlobals "MOST_DROPS" = some (some (.int 12 t1)))
    (y_mTargets : PySem.W.nsIn K mainGlobals "MOST_TARGETS" = some (some (.int 4 t2)))
    (y_mSigns : PySem.W.nsIn K mainGlobals "MOST_SIGNS" = some (some (.int 16 t3)))
    (y_letters : PySem.W.nsIn K mainGlobals "LETTERS" = some (some (.str "abcdefghijklmnopqrstuvwxyz" t4)))
    (y_signs : PySem.W.nsIn K mainGlobals "SIGNS" = some (some (.str "abcdefghijklmnopqrstuvwxyz0123456789." t5)))
    (pg : PySem.W.plainGet K C Str.empty = true)
    (hd : PySem.W.hasDictIn K C = true)
    (po : PySem.W.plainOver K C = true)
    (sa : PySem.W.findIn K (.ref C) "__setattr__" = some (some (.builtin "object.__setattr__")))
    (mk : PySem.W.makesIn K C = true)
    (kc : PySem.W.keepIn K (.ref C) = true)
    (n_knots : PySem.W.findIn K (.ref C) "knots" = some none)
    (n_inlets : PySem.W.findIn K (.ref C) "inlets" = some none)
    (n_outlets : PySem.W.findIn K (.ref C) "outlets" = some none)
    (xne : PySem.W.findIn K (.ref C) "__ne__" = some (some (.builtin "object.__ne__")))
    (xob : K.lookup C = some (excClassObj nm q C N bs bm hdct sn sub ab col dd m0 m1 m2 m3 m5 newId))
    (xbm : bm.contains (.type "object") = true)
    (xiC : PySem.W.findIn K (.ref C) "__class__" = some (some (.builtin "object.__class__")))
    (xiS : PySem.W.specialIn K (.builtin "object.__class__") "__get__" = some (some (.builtin "getset_descriptor.__get__")))
    (xiT : PySem.W.takesIn K (.builtin "object.__class__") = some true)
    (xiM : PySem.W.mroIn K C (.type "object") = some true)
    (xisO : PySem.W.kitOne K (.ref C) (.ref C) = some true)
    (xisI : PySem.W.kitOne K (.type "int") (.ref C) = some false)
    (xisD : PySem.W.kitOne K (.type "dict") (.ref C) = some false)
    (xnfI : PySem.W.notFirst K C (.type "int") = true)
    (xnfD : PySem.W.notFirst K C (.type "dict") = true)
    (bC : PySem.W.nsIn K mainGlobals "BadNet" = some (some (.ref B)))
    (bL : K.lookup B = some (excClassObj bnm bq B bN bbs bbm true bsn bsub bab bcol bdd b0 b1 b2 b3 b5 "ValueError.__new__"))
    (bR : PySem.HandSPX.refsVE bbm = true)
    (chC : PySem.W.nsIn K mainGlobals "ChuteError" = some (some (.ref Ch)))
    (chL : K.lookup Ch = some (excClassObj cnm cq Ch cN cbs cbm chd csn csub cab ccol cdd2 c_0 c_1 c_2 c_3 c_5 cId))
    (chF : PySem.W.findIn K (.ref Ch) "__init__" = some (some (.builtin "ValueError.__init__")))
    (bE : (List.dropWhile (· != .ref B) (.ref B :: bbm)).drop 1 = .ref Ch :: cbm)
    (bSa : PySem.W.findIn K (.ref B) "__setattr__" = some (some (.builtin "object.__setattr__")))
    (bNo : PySem.W.findIn K (.ref B) "name" = some none)
    (bIc : PySem.W.findIn K (.ref B) "__init__" = some (some (.ref fI)))
    (bTc : PySem.W.typeIn K (.ref fI) = some (.type "function"))
    (bIn : PySem.W.subIn K (.ref B) (.type "ValueError") = some true)
    (bSs : PySem.W.mroIn K B (.ref B) = some true)
    (bOp : PySem.W.nsIn K cStatics "thirdparty.any" = some none)
    (bFn : K.lookup fI = some ⟨boc, bod, .func (PySem.W.ksFn "__init__" "BadNet.__init__" (PySem.Bn.tA p1 p2) (PySem.Bn.tB PySem.Bn.P0) PySem.Bn.tS .none .none bdoc bpm ban (.ref cda) bct cc), bosl⟩)
    (bCo : PySem.W.codeIn K (.ref cda) "BadNet.__init__" = true)
    (bCd : K.lookup cda = some ⟨ccl, cdd, .fields vs, ccs⟩)
    (bFl : vs[2]? = some (.str file tf))
    (bCe : K.lookup cc = some ⟨cl, cld, .cell (some (.ref B)), csl⟩)
    (bKc : PySem.W.keepIn K (.ref B) = true)
    (bEx : PySem.W.subIn K (.ref B) (.type "BaseException") = some true)
    (bTy : PySem.W.typeIn K (.ref B) = some (.type "type"))
    (bIs : PySem.W.isClsIn K B = true)
    (bSb : PySem.W.subIn K (.ref B) (.ref B) = some true)
    (bGa : PySem.W.findIn K (.ref B) "__getattribute__" = some (some (.builtin "BaseException.__getattribute__")))
    (bGg : PySem.W.findIn K (.ref B) "__getattr__" = some none)
    (bHd : PySem.W.hasDictIn K B = true)
    (bFi : ((l.prog.main.file : Str) == file) = true)
    (bTo : (l.prog.main.scope.names.lookup ("super" : Str)).isSome = false) :
    ∃ fd : FuncData, (∀ (s : Shared) (v : Value), BindsTo s fd ⟨[v], []⟩ [("script", v)]) ∧ ∀ base : Heap, K.In base → base.Ns mainGlobals mg → FnOk l.prog w K mg base CX0 9 fa fd ["script"] (spLaw K) := by
  obtain rfl : f15 = fa := by
    have e := hfa.symm.trans (PySem.W.mg_of X G a15)
    cases e
    rfl
  let ad : Ad := { leaders := f0, met := f1, kinds := f2, names := f3, isName := f4, rows := f5, areRows := f6, isRow := f7, isDrop := f8, inlets := f9, chMet := f10, draw := f11, lKnots := f12, lInlets := f13, refused := f14, law := f15, init := f16, start := f17, len := f18, has := f19, eq := f20, cNet := C, cBad := B, badInit := fI, cellBad := cc, codeBad := cda, fileBad := file, dLeaders := PySem.W.fnOf "leaders" "leaders" (defArgs sLeaders) (defBody sLeaders) (defScope sLeaders) .none kV0 dc0 pm0 an0 cd0 ct0, dMet := PySem.W.fnOf "met_by_turn" "met_by_turn" (defArgs sMet) (defBody sMet) (defScope sMet) .none kV1 dc1 pm1 an1 cd1 ct1, dKinds := PySem.W.fnOf "check_kinds" "check_kinds" (defArgs sKinds) (defBody sKinds) (defScope sKinds) .none kV2 dc2 pm2 an2 cd2 ct2, dNames := PySem.W.fnOf "check_names" "check_names" (defArgs sNames) (defBody sNames) (defScope sNames) .none kV3 dc3 pm3 an3 cd3 ct3, dIsName := PySem.W.fnOf "is_name" "is_name" (defArgs sIsName) (defBody sIsName) (defScope sIsName) .none kV4 dc4 pm4 an4 cd4 ct4, dRows := PySem.W.fnOf "check_rows" "check_rows" (defArgs sRows) (defBody sRows) (defScope sRows) .none kV5 dc5 pm5 an5 cd5 ct5, dAreRows := PySem.W.fnOf "are_rows" "are_rows" (defArgs sAreRows) (defBody sAreRows) (defScope sAreRows) .none kV6 dc6 pm6 an6 cd6 ct6, dIsRow := PySem.W.fnOf "is_row" "is_row" (defArgs sIsRow) (defBody sIsRow) (defScope sIsRow) .none kV7 dc7 pm7 an7 cd7 ct7, dIsDrop := PySem.W.fnOf "is_drop" "is_drop" (defArgs sIsDrop) (defBody sIsDrop) (defScope sIsDrop) .none kV8 dc8 pm8 an8 cd8 ct8, dInlets := PySem.W.fnOf "check_inlets" "check_inlets" (defArgs sInlets) (defBody sInlets) (defScope sInlets) .none kV9 dc9 pm9 an9 cd9 ct9, dChMet := PySem.W.fnOf "check_met" "check_met" (defArgs sChMet) (defBody sChMet) (defScope sChMet) .none kV10 dc10 pm10 an10 cd10 ct10, dDraw := PySem.W.fnOf "_law_draw" "_law_draw" (defArgs sDraw) (defBody sDraw) (defScope sDraw) .none kV11 dc11 pm11 an11 cd11 ct11, dLKnots := PySem.W.fnOf "_law_knots" "_law_knots" (defArgs sLKnots) (defBody sLKnots) (defScope sLKnots) .none kV12 dc12 pm12 an12 cd12 ct12, dLInlets := PySem.W.fnOf "_law_inlets" "_law_inlets" (defArgs sLInlets) (defBody sLInlets) (defScope sLInlets) .none kV13 dc13 pm13 an13 cd13 ct13, dRefused := PySem.W.fnOf "_law_refused" "_law_refused" (defArgs sTurned) (defBody sTurned) (defScope sTurned) .none kV14 dc14 pm14 an14 cd14 ct14, dLaw := PySem.W.fnOf "law" "law" (defArgs sLaw) (defBody sLaw) (defScope sLaw) .none kV15 dc15 pm15 an15 cd15 ct15, dInit := PySem.W.fnOf "__init__" "Net.__init__" (defArgs sInit) (defBody sInit) (defScope sInit) .none kV16 dc16 pm16 an16 cd16 ct16, dStart := PySem.W.fnOf "start" "Net.start" (defArgs sStart) (defBody sStart) (defScope sStart) .none kV17 dc17 pm17 an17 cd17 ct17, dLen := PySem.W.fnOf "__len__" "Net.__len__" (defArgs sLen) (defBody sLen) (defScope sLen) .none kV18 dc18 pm18 an18 cd18 ct18, dHas := PySem.W.fnOf "__contains__" "Net.__contains__" (defArgs sHas) (defBody sHas) (defScope sHas) .none kV19 dc19 pm19 an19 cd19 ct19, dEq := PySem.W.fnOf "__eq__" "Net.__eq__" (defArgs sEq) (defBody sEq) (defScope sEq) .none kV20 dc20 pm20 an20 cd20 ct20 }
  have T : Tx K mg ad := { isinstance := PySem.W.mg_none_of X G z_isinstance, len := PySem.W.mg_none_of X G z_len, all := PySem.W.mg_none_of X G z_all, sorted := PySem.W.mg_none_of X G z_sorted, list := PySem.W.mg_none_of X G z_list, tuple := PySem.W.mg_none_of X G z_tuple, dict := PySem.W.mg_none_of X G z_dict, str := PySem.W.mg_none_of X G z_str, int := PySem.W.mg_none_of X G z_int, range := PySem.W.mg_none_of X G z_range, enumerate := PySem.W.mg_none_of X G z_enumerate, reversed := PySem.W.mg_none_of X G z_reversed, mKnots := ⟨_, PySem.W.mg_of X G y_mKnots⟩, mDrops := ⟨_, PySem.W.mg_of X G y_mDrops⟩, mTargets := ⟨_, PySem.W.mg_of X G y_mTargets⟩, mSigns := ⟨_, PySem.W.mg_of X G y_mSigns⟩, letters := ⟨_, PySem.W.mg_of X G y_letters⟩, signs := ⟨_, PySem.W.mg_of X G y_signs⟩, gLeaders := PySem.W.mg_of X G a0, fLeaders := fun_mk (st := sLeaders) l0 c0 k0, gMet := PySem.W.mg_of X G a1, fMet := fun_mk (st := sMet) l1 c1 k1, gKinds := PySem.W.mg_of X G a2, fKinds := fun_mk (st := sKinds) l2 c2 k2, gNames := PySem.W.mg_of X G a3, fNames := fun_mk (st := sNames) l3 c3 k3, gIsName := PySem.W.mg_of X G a4, fIsName := fun_mk (st := sIsName) l4 c4 k4, gRows := PySem.W.mg_of X G a5, fRows := fun_mk (st := sRows) l5 c5 k5, gAreRows := PySem.W.mg_of X G a6, fAreRows := fun_mk (st := sAreRows) l6 c6 k6, gIsRow := PySem.W.mg_of X G a7, fIsRow := fun_mk (st := sIsRow) l7 c7 k7, gIsDrop := PySem.W.mg_of X G a8, fIsDrop := fun_mk (st := sIsDrop) l8 c8 k8, gInlets := PySem.W.mg_of X G a9, fInlets := fun_mk (st := sInlets) l9 c9 k9, gChMet := PySem.W.mg_of X G a10, fChMet := fun_mk (st := sChMet) l10 c10 k10, gDraw := PySem.W.mg_of X G a11, fDraw := fun_mk (st := sDraw) l11 c11 k11, gLKnots := PySem.W.mg_of X G a12, fLKnots := fun_mk (st := sLKnots) l12 c12 k12, gLInlets := PySem.W.mg_of X G a13, fLInlets := fun_mk (st := sLInlets) l13 c13 k13, gRefused := PySem.W.mg_of X G a14, fRefused := fun_mk (st := sTurned) l14 c14 k14, fInit := fun_mk (st := sInit) l16 c16 k16, fStart := fun_mk (st := sStart) l17 c17 k17, fLen := fun_mk (st := sLen) l18 c18 k18, fHas := fun_mk (st := sHas) l19 c19 k19, fEq := fun_mk (st := sEq) l20 c20 k20, gNet := PySem.W.mg_of X G aC, cl := ⟨pg, hd, po, sa⟩, mkN := ⟨mk, a16, i16, kc⟩, mStart := ⟨a17, i17, k17⟩, iLen := a18, iHas := a19, iEq := a20, nKnots := n_knots, nInlets := n_inlets, nOutlets := n_outlets }
  have U : Tc K mg ad := { tx := T, oLen := ⟨a18, i18⟩, oHas := ⟨a19, i19⟩, oEq := ⟨a20, i20⟩, ne := xne, obj := ⟨nm, q, N, bs, bm, hdct, sn, sub, ab, col, dd, m0, m1, m2, m3, m5, newId, xob, xbm⟩, iC := xiC, iS := xiS, iT := xiT, iM := xiM, isO := xisO, isI := xisI, isD := xisD, nfI := xnfI, nfD := xnfD }
  have bA : PySem.W.alongIn K "__init__" ((List.dropWhile (· != .ref B) (.ref B :: bbm)).drop 1) = some (some (.builtin "ValueError.__init__")) := by
    rw [bE, ← chF]
    unfold PySem.W.findIn
    dsimp only
    rw [chL]
  have Bd : PySem.Bn.Txt K mg B fI cc cda file := { gC := PySem.W.mg_of X G bC, cls := ⟨bnm, bq, bN, bbs, bbm, bsn, bsub, bab, bcol, bdd, b0, b1, b2, b3, b5, bL, bR, bA⟩, sa := bSa, noN := bNo, iC := bIc, tC := bTc, inst := bIn, selfS := bSs, op := bOp, fn := ⟨boc, bod, bdoc, bpm, ban, bct, bosl, p1, p2, bFn, bCo⟩, code := ⟨ccl, cdd, vs, ccs, tf, bCd, bFl⟩, cell := ⟨cl, cld, csl, bCe⟩, noS := PySem.W.mg_none_of X G z_super }
  have W : Tb l.prog K mg ad := { tx := T, bad := Bd, kC := bKc, exC := bEx, tyC := bTy, te := exm_selfB bEx bIs bTy bSb, file_ := bFi, top_ := bTo, xf := ⟨bGa, bGg, bEx, bHd⟩ }
  exact ⟨PySem.W.fnOf "law" "law" (defArgs sLaw) (defBody sLaw) (defScope sLaw) .none kV15 dc15 pm15 an15 cd15 ct15, fun s v => .of_eq rfl, fun base _ _ => ok_law (ad := ad) U W (fun_mk (st := sLaw) l15 c15 k15)⟩
theorem walk {l : PySem.W.OpenLaw} {q : Program} {loose : List Str} {XP : (Str → Option Value) → Heap → Prop} {YP : World → Heap → Prop} {d : DefRec} {K : Params → PySem.W.Frag} (hn : l.most = some 63) (hdf : d.params.defaults = [])
    (hY : ∀ (w : World) (h : Heap), YP w h → (K w.params).In h)
    (F : ∀ (w : World) (mg : Str → Option Value) (fa : Addr) (h : Heap), (K w.params).In h → h.Ns mainGlobals mg → mg d.name = some (.ref fa) →
      ∃ fd : FuncData, (∀ (s : Shared) (u : Value), BindsTo s fd ⟨[u], []⟩ [("script", u)]) ∧ ∀ base : Heap, (K w.params).In base → base.Ns mainGlobals mg → FnOk l.prog w (K w.params) mg base CX0 9 fa fd ["script"] (spLaw (K w.params))) :
    PySem.W.WalkO q loose XP YP l.row.toRowW d [] (fun f vs => PySem.call f vs) :=
  L2.walk_of (n := 63) (k := 9) (x := "script") (CX := fun _ => CX0) (sp := fun w => spLaw (K w.params)) hn (by decide) hdf ⟨rfl, by decide, by decide⟩ hY F (fun _ _ a ns hl _ hS => ⟨a, ns, rfl, hS, hl, fun _ => rfl⟩) fun _ _ _ _ _ z => z
end Bc


open PySem PySem.W PyProof.Rows in
set_option maxRecDepth 100000 in
set_option maxHeartbeats 0 in
theorem PySem.Challenge.cw_ballchutes_k07_refused_nets_holds : PySem.Challenge.rw_ballchutes_k07_refused_nets.Holds := by
  w_on; o_law; k_head; (case hw => w_witness2)
  k_fill
  refine Bc.walk (l := PySem.Challenge.rw_ballchutes_k07_refused_nets) rfl rfl (fun w h Y => PySem.W.kIn_of Y) ?F
  case F =>
    intro w mg fa h KX G hmg
    refine' Bc.all_mk (l := PySem.Challenge.rw_ballchutes_k07_refused_nets) KX G hmg ?aC ?a0 ?l0 ?c0 ?k0 ?a1 ?l1 ?c1 ?k1 ?a2 ?l2 ?c2 ?k2 ?a3 ?l3 ?c3 ?k3 ?a4 ?l4 ?c4 ?k4 ?a5 ?l5 ?c5 ?k5 ?a6 ?l6 ?c6 ?k6 ?a7 ?l7 ?c7 ?k7 ?a8 ?l8 ?c8 ?k8 ?a9 ?l9 ?c9 ?k9 ?a10 ?l10 ?c10 ?k10 ?a11 ?l11 ?c11 ?k11 ?a12 ?l12 ?c12 ?k12 ?a13 ?l13 ?c13 ?k13 ?a14 ?l14 ?c14 ?k14 ?a15 ?l15 ?c15 ?k15 ?a16 ?i16 ?l16 ?c16 ?k16 ?a17 ?i17 ?l17 ?c17 ?k17 ?a18 ?i18 ?l18 ?c18 ?k18 ?a19 ?i19 ?l19 ?c19 ?k19 ?a20 ?i20 ?l20 ?c20 ?k20 ?z_isinstance ?z_len ?z_all ?z_sorted ?z_list ?z_tuple ?z_dict ?z_str ?z_int ?z_range ?z_enumerate ?z_reversed ?z_super ?y_mKnots ?y_mDrops ?y_mTargets ?y_mSigns ?y_letters ?y_signs ?pg ?hd ?po ?sa ?mk ?kc ?n_knots ?n_inlets ?n_outlets ?xne ?xob ?xbm ?xiC ?xiS ?xiT ?xiM ?xisO ?xisI ?xisD ?xnfI ?xnfD ?bC ?bL ?bR ?chC ?chL ?chF ?bE ?bSa ?bNo ?bIc ?bTc ?bIn ?bSs ?bOp ?bFn ?bCo ?bCd ?bFl ?bCe ?bKc ?bEx ?bTy ?bIs ?bSb ?bGa ?bGg ?bHd ?bFi ?bTo
    (case aC => k_is)
    (case a0 => k_is)
    (case l0 => k_is)
    (case c0 => k_is)
    (case k0 => k_is)
    (case a1 => k_is)
    (case l1 => k_is)
    (case c1 => k_is)
    (case k1 => k_is)
    (case a2 => k_is)
    (case l2 => k_is)
    (case c2 => k_is)
    (case k2 => k_is)
    (case a3 => k_is)
    (case l3 => k_is)
    (case c3 => k_is)
    (case k3 => k_is)
    (case a4 => k_is)
    (case l4 => k_is)
    (case c4 => k_is)
    (case k4 => k_is)
    (case a5 => k_is)
    (case l5 => k_is)
    (case c5 => k_is)
    (case k5 => k_is)
    (case a6 => k_is)
    (case l6 => k_is)
    (case c6 => k_is)
    (case k6 => k_is)
    (case a7 => k_is)
    (case l7 => k_is)
    (case c7 => k_is)
    (case k7 => k_is)
    (case a8 => k_is)
    (case l8 => k_is)
    (case c8 => k_is)
    (case k8 => k_is)
    (case a9 => k_is)
    (case l9 => k_is)
    (case c9 => k_is)
    (case k9 => k_is)
    (case a10 => k_is)
    (case l10 => k_is)
    (case c10 => k_is)
    (case k10 => k_is)
    (case a11 => k_is)
    (case l11 => k_is)
    (case c11 => k_is)
    (case k11 => k_is)
    (case a12 => k_is)
    (case l12 => k_is)
    (case c12 => k_is)
    (case k12 => k_is)
    (case a13 => k_is)
    (case l13 => k_is)
    (case c13 => k_is)
    (case k13 => k_is)
    (case a14 => k_is)
    (case l14 => k_is)
    (case c14 => k_is)
    (case k14 => k_is)
    (case a15 => k_is)
    (case l15 => k_is)
    (case c15 => k_is)
    (case k15 => k_is)
    (case a16 => k_is)
    (case i16 => k_is)
    (case l16 => k_is)
    (case c16 => k_is)
    (case k16 => k_is)
    (case a17 => k_is)
    (case i17 => k_is)
    (case l17 => k_is)
    (case c17 => k_is)
    (case k17 => k_is)
    (case a18 => k_is)
    (case i18 => k_is)
    (case l18 => k_is)
    (case c18 => k_is)
    (case k18 => k_is)
    (case a19 => k_is)
    (case i19 => k_is)
    (case l19 => k_is)
    (case c19 => k_is)
    (case k19 => k_is)
    (case a20 => k_is)
    (case i20 => k_is)
    (case l20 => k_is)
    (case c20 => k_is)
    (case k20 => k_is)
    (case z_isinstance => k_is)
    (case z_len => k_is)
    (case z_all => k_is)
    (case z_sorted => k_is)
    (case z_list => k_is)
    (case z_tuple => k_is)
    (case z_dict => k_is)
    (case z_str => k_is)
    (case z_int => k_is)
    (case z_range => k_is)
    (case z_enumerate => k_is)
    (case z_reversed => k_is)
    (case z_super => k_is)
    (case y_mKnots => k_is)
    (case y_mDrops => k_is)
    (case y_mTargets => k_is)
    (case y_mSigns => k_is)
    (case y_letters => k_is)
    (case y_signs => k_is)
    (case pg => k_is)
    (case hd => k_is)
    (case po => k_is)
    (case sa => k_is)
    (case mk => k_is)
    (case kc => k_is)
    (case n_knots => k_is)
    (case n_inlets => k_is)
    (case n_outlets => k_is)
    (case xne => k_is)
    (case xob => k_is)
    (case xbm => decide +kernel)
    (case xiC => k_is)
    (case xiS => k_is)
    (case xiT => k_is)
    (case xiM => k_is)
    (case xisO => kit_is)
    (case xisI => kit_is)
    (case xisD => kit_is)
    (case xnfI => k_is)
    (case xnfD => k_is)
    (case bC => k_is)
    (case bL => k_is)
    (case bR => decide +kernel)
    (case chC => k_is)
    (case chL => k_is)
    (case chF => k_is)
    (case bE => first | rfl | decide +kernel)
    (case bSa => k_is)
    (case bNo => k_is)
    (case bIc => k_is)
    (case bTc => k_is)
    (case bIn => k_is)
    (case bSs => k_is)
    (case bOp => k_is)
    (case bFn => k_is)
    (case bCo => k_is)
    (case bCd => k_is)
    (case bFl => rfl)
    (case bCe => k_is)
    (case bKc => k_is)
    (case bEx => k_is)
    (case bTy => k_is)
    (case bIs => k_is)
    (case bSb => k_is)
    (case bGa => k_is)
    (case bGg => k_is)
    (case bHd => k_is)
    (case bFi => first | rfl | decide +kernel)
    (case bTo => first | rfl | decide +kernel)
