import PyProof.Rows.All
import Wide.All
import OpenK.AllK
import Wide.FinOn
import KE.KExcSuper
import HandS.Base
import HandS.Call
import HandS.Exc
import HandS.ExcOwn
import HandS.Words
import HandS.CallRecv
import KE.GoesNew
import HandS.ForMost
import HandS.Walk
import KE.KDictList
import PyProof.TupleOfStr
import PyProof.Rows.Range3
import HandS.Conv
import PyProof.InstNe
import HandS.IsInst
import PyProof.IsiBase
import HandS.Flow
import HandS.Zip
import HandS.CallSlots
import HandS.ExcField
import HandS.MakeKwOnly
import HandS.Style
import HandS.TryOnly
import HandS.WordsExc
import HandS.Wide
import HandS.List
import HandS.LawCells
import HandS.Evl
import HandS.SetBool
import HandS.Strs
import HandS.Comp
import HandS.CallLocal
import HandS.WordsDict
import HandS.DictComp
import HandS.ListItems
import HandS.Iter
import HandS.Small
import KE.GoesMore
import HandS.Defaults
import PyProof.ReprRoads
import PyProof.StrLawsRepr
import PyProof.FitsInt
import HandS.Rev
import HandS.Deep
import HandS.SetFor
import PyProof.DictFindH
import KE.KDictCopyH
import KE.KDictWalk
import KE.KDictSum
import HandS.SortInts
import HandS.Finally
import HandS.Gcd
import KE.KMathGC
import KE.KItemsList
import KE.KDictZip
import HandS.RaiseMore
import HandS.DictEq
import HandS.ListEq
import PyProof.NeKinds
import HandS.Dict
import HandS.More
import HandS.Nested
import KE.LcTurns
import PyProof.SumAny
import PyProof.Rows.SortShell
import PyProof.EnumMake
import PyProof.EnumIter
import PyProof.EnumStmt
import HandS.Steps
import HandS.DictTup
import HandS.Lambda
import HandS.EndTab
import HandS.DeepEq
import PySem.Challenge.RW_ringwalkers_k38_whole_notes_counted
set_option Elab.async false
set_option linter.all false
set_option maxRecDepth 100000
set_option maxHeartbeats 4000000
/-! own error classes with one field: def __init__(self, f): super().__init__(text); self.f = f, over ValueError (at any depth of own classes) -/
namespace PySem
namespace XW
open PySem.W PySem.Calls PyProof.Rows PySem.HandSPX
def xA (f : Str) (p1 p2 : Pos) : Arguments := { posonlyargs := [], args := [{ arg := "self", annotation := none, pos := p1 }, { arg := f, annotation := none, pos := p2 }], vararg := none, kwonlyargs := [], kw_defaults := [], kwarg := none, defaults := [] }
def xB1 (txt : Str) (q1 q2 q3 q4 q5 q6 : Pos) : Stmt := .Expr (.Call (.Attribute (.Call (.Name "super" q1) [] [] q2) "__init__" q3) [.Constant (.str txt) 0 q4] [] q5) q6
def xB2 (f : Str) (r1 r2 r3 r4 : Pos) : Stmt := .Assign [.Attribute (.Name "self" r1) f r2] (.Name f r3) r4
def xS (f : Str) : Scope := { kind := .function, names := [("self", .local), (f, .local), ("__class__", .free), ("super", .globalImplicit)], isGenerator := false, isCoroutine := false, more := [] }
/-- what the written part says of the class at C, and of its __init__, at fI -/
structure XTxt (prog : Program) (K : Frag) (mg : Str → Option Value) (f : Str) (C fI : Addr) : Prop where
  fne : f ≠ "self"
  fn1 : (f == ("self" : Str)) = false
  fS : (("super" : Str) == f) = false
  fK : (("__class__" : Str) == f) = false
  fd : (f == ("__debug__" : Str)) = false
  bnd : ∀ (qual : Str) (p1 p2 : Pos) (b1 b2 : Stmt) (doc pm : Value) (an : Option Addr) (cd ct : Value) (cc : Addr) (u v : Value), bindArgs (ksFn "__init__" qual (xA f p1 p2) [b1, b2] (xS f) .none .none doc pm an cd ct cc) ⟨[u, v], []⟩ = pure [(("self" : Str), u), (f, v)]
  cls : ∃ nm q N bs bm sn sub ab col dd k0 k1 k2 k3 k5, K.lookup C = some (excClassObj nm q C N bs bm true sn sub ab col dd k0 k1 k2 k3 k5 "ValueError.__new__") ∧ refsVE bm = true
  ini : excInitIn K C [.type "ValueError", .type "Exception", .type "BaseException", .type "object"] "ValueError.__new__" = true
  sup : ks_superIn K C C "__init__" = some (some (.builtin "ValueError.__init__"))
  sV : subIn K (.ref C) (.type "ValueError") = some true
  mC : mroIn K C (.ref C) = some true
  tp : nsIn K cStatics "thirdparty.any" = some none
  gS : mg "super" = none
  top : (prog.main.scope.names.lookup ("super" : Str)).isSome = false
  sa : findIn K (.ref C) "__setattr__" = some (some (.builtin "object.__setattr__"))
  ga : findIn K (.ref C) "__getattribute__" = some (some (.builtin "BaseException.__getattribute__"))
  gg : findIn K (.ref C) "__getattr__" = some none
  noN : findIn K (.ref C) f = some none
  iC : findIn K (.ref C) "__init__" = some (some (.ref fI))
  tC : typeIn K (.ref fI) = some (.type "function")
  kC : keepIn K (.ref C) = true
  exC : subIn K (.ref C) (.type "BaseException") = some true
  tyC : typeIn K (.ref C) = some (.type "type")
  hdC : hasDictIn K C = true
  te : exmOne K (.ref C) (.ref C) = some true
  fn : ∃ (oc : Value) (od : Option Addr) (doc pm : Value) (an : Option Addr) (cda cc : Addr) (ct : Value) (osl : Array (Option Value)) (qual txt : Str) (p1 p2 q1 q2 q3 q4 q5 q6 r1 r2 r3 r4 : Pos),
    K.lookup fI = some ⟨oc, od, .func (ksFn "__init__" qual (xA f p1 p2) [xB1 txt q1 q2 q3 q4 q5 q6, xB2 f r1 r2 r3 r4] (xS f) .none .none doc pm an (.ref cda) ct cc), osl⟩ ∧ codeIn K (.ref cda) qual = true ∧ (q3.endLine == q5.line) = true ∧
    (∃ (ccl : Value) (cdd : Option Addr) (vs : Array Value) (ccs : Array (Option Value)) (file : Str) (tf : Tok), K.lookup cda = some ⟨ccl, cdd, .fields vs, ccs⟩ ∧ vs[2]? = some (.str file tf) ∧ ((prog.main.file : Str) == file) = true) ∧
    ∃ (cl : Value) (cld : Option Addr) (csl : Array (Option Value)), K.lookup cc = some ⟨cl, cld, .cell (some (.ref C)), csl⟩
/-- what __init__ leaves of a fresh exception at x; hp: the heap ahead of the making -/
structure XEnd (hp h' : Heap) (x C dx t1 : Addr) (f : Str) (v : Value) : Prop where
  keep : ∀ b o, hp.get? b = some o → h'.get? b = some o
  obj : h'.get? x = some { cls := .ref C, dict := some dx, data := .fields #[.ref t1, .none, .none, .none, .bool false, .none] }
  dbig : hp.objs.size ≤ dx
  dne : dx ≠ x
  ns : h'.Ns1 dx (fun y => if y = f then some v else none)
theorem hc_of {q1 q2 q3 q4 q5 : Pos} {txt : Str} {env : Env} (h : (q3.endLine == q5.line) = true) :
  eval (.Call (.Attribute (.Call (.Name "super" q1) [] [] q2) "__init__" q3) [.Constant (.str txt) 0 q4] [] q5) env = (do
      let ov ← attributeBase (.Call (.Name "super" q1) [] [] q2) "__init__" env (eval (.Call (.Name "super" q1) [] [] q2) env)
      standAt q3.atName
      let (f, first) ← holding [ov] (getMethod ov "__init__" (do return (← importBound (.Call (.Name "super" q1) [] [] q2) env).getD true))
      callWith q5 f first (backTo q5 (starEach [.Constant (.str txt) 0 q4] env)) []) := by
  rw [arm_eval_Call]
  have e : ∀ ov, methodCall (.Call (.Name "super" q1) [] [] q2) "__init__" q3 q5 env ov ([Expr.Constant (.str txt) 0 q4].length + ([] : List Keyword).length) (backTo q5 (starEach [.Constant (.str txt) 0 q4] env)) (backToKw q5 (keywordEach [] env)) = (do
      let (f, first) ← holding [ov] (getMethod ov "__init__" (do return (← importBound (.Call (.Name "super" q1) [] [] q2) env).getD true))
      callWith q5 f first (backTo q5 (starEach [.Constant (.str txt) 0 q4] env)) []) := by
    intro ov
    have hf : methodCallForm ([Expr.Constant (.str txt) 0 q4].length + ([] : List Keyword).length) (backTo q5 (starEach [.Constant (.str txt) 0 q4] env)) (backToKw q5 (keywordEach [] env)) = true := by rfl
    unfold methodCall calleeOf methodCallPos
    rw [hf]
    simp only [h, Bool.not_true, Bool.false_or, if_true, pure_bind]
    rfl
  simp only [e]
theorem xS_sup {f : Str} {qual : Str} {L a : Addr} {cd : Value} {cc : Addr} (h : (("super" : Str) == f) = false) : (ksEnv qual (xS f) L a cd cc).kindOf "super" = some .globalImplicit := by
  show List.lookup ("super" : Str) [(("self" : Str), NameKind.local), (f, .local), ("__class__", .free), ("super", .globalImplicit)] = some .globalImplicit
  have e1 : (("super" : Str) == ("self" : Str)) = false := by decide +kernel
  have e2 : (("super" : Str) == ("__class__" : Str)) = false := by decide +kernel
  simp only [List.lookup, h, e1, e2, beq_self_eq_true]
theorem xS_cls {f : Str} {qual : Str} {L a : Addr} {cd : Value} {cc : Addr} (h : (("__class__" : Str) == f) = false) : (ksEnv qual (xS f) L a cd cc).kindOf "__class__" = some .free := by
  show List.lookup ("__class__" : Str) [(("self" : Str), NameKind.local), (f, .local), ("__class__", .free), ("super", .globalImplicit)] = some .free
  have e1 : (("__class__" : Str) == ("self" : Str)) = false := by decide +kernel
  simp only [List.lookup, h, e1, beq_self_eq_true]
theorem xS_loc {f : Str} {qual : Str} {L a : Addr} {cd : Value} {cc : Addr} (h : (f == ("self" : Str)) = false) : (ksEnv qual (xS f) L a cd cc).kindOf f = some .local := by
  show List.lookup f [(("self" : Str), NameKind.local), (f, .local), ("__class__", .free), ("super", .globalImplicit)] = some .local
  simp [List.lookup, h]
section
variable {prog : Program} {w : World} {A : Around} {E : Value → Shared → Prop} {R : Result → Shared → Prop} {s : Shared} {K : Frag} {mg : Str → Option Value} {f : Str} {C fI : Addr}
theorem x_init (T : XTxt prog K mg f C fI) {hp : Heap} {x t0 : Addr} {v : Value} (M : L2.Mod K mg hp) (k0 : ∀ b o, hp.get? b = some o → s.heap.get? b = some o) (hxn : hp.get? x = none) (hsz : hp.objs.size ≤ s.heap.objs.size)
    (hx : s.heap.get? x = some (excO C t0)) (hroom : A.depth < recursionLimit)
    (hq : ∀ h' tk dx t1, XEnd hp h' x C dx t1 f v → R (.ok (.ret .none)) { s with heap := h', toks := tk }) :
    codeAny (model prog w) A (.call (.ref fI) ⟨[.ref x, v], []⟩) R s := by
  obtain ⟨oc, od, doc, pm, an, cda, cc, ct, osl, qual, txt, p1, p2, q1, q2, q3, q4, q5, q6, r1, r2, r3, r4, ho, hcd, hline, ⟨ccl, cdd, vs, ccs, file, tf, hcode, hvs, hfile⟩, cl, cld, csl, hcell⟩ := T.fn
  obtain ⟨nm, q, N, bs, bm, sn, sub, ab, col, dd, k0', k1, k2, k3, k5, hC, hbm⟩ := T.cls
  have hcl : clsIn K C = some { name := nm, bases := bs, mro := .ref C :: bm, ns := N, qualname := q, hasDict := true, slotNames := sn, subclasses := sub, abstract := ab, collection := col, hasDel := false } := by unfold clsIn; rw [hC] <;> rfl
  have X := M.kin
  have Xs : K.In s.heap := X.keeps k0
  have hlim : s.heap.NoLimit := M.nolimit.keeps k0
  refine ks_codeAny_call_defAt (fd := ksFn "__init__" qual (xA f p1 p2) [xB1 txt q1 q2 q3 q4 q5 q6, xB2 f r1 r2 r3 r4] (xS f) .none .none doc pm an (.ref cda) ct cc) (body := [xB1 txt q1 q2 q3 q4 q5 q6, xB2 f r1 r2 r3 r4])
    (binds := [("self", .ref x), (f, v)]) hroom (Xs _ _ ho) rfl hlim (codeRec_of Xs hcd) rfl (BindsTo.of_eq (T.bnd _ _ _ _ _ _ _ _ _ _ _ _ _)) (by simp [xS]) (by simp [xS, List.lookup, T.fn1]) (fun h₁ hns hk₁ => ?_)
  have F₁ : Fr hp s.heap.objs.size h₁ (fun y => List.lookup y [(f, v), ("self", Value.ref x)]) := ⟨hns, fun b o e => hk₁ b o (k0 b o e), hsz⟩
  have N₁ : News hp s.heap.objs.size h₁ [(x, excObj C t0 none .none)] := fun p hp' => by
    rcases List.mem_cons.mp hp' with rfl | hp'
    · exact ⟨hk₁ _ _ hx, Nat.ne_of_lt (Heap.lt_size hx), hxn⟩
    · cases hp'
  have X₁ : K.In h₁ := X.keeps F₁.keep
  have ns0 : (f == ("self" : Str)) = false := T.fn1
  have lself : List.lookup ("self" : Str) [(f, v), ("self", Value.ref x)] = some (.ref x) := by
    have e : ((("self" : Str) == f) : Bool) = false := by
      have := T.fne
      simpa using fun z => this z.symm
    simp [List.lookup, e]
  have lf : List.lookup f [(f, v), ("self", Value.ref x)] = some v := by simp [List.lookup]
  obtain ⟨mb, hb1, hb2⟩ := M.blt
  have I₁ : InstAt h₁ x (excObj C t0 none .none) C none := InstAt.of_exc0 N₁ List.mem_cons_self
  refine ks_wpAt_execs_cons (ks_wpAt_Expr_any (ks_wpAt_MethodCall ?_ (hc_of hline)))
  have hkS : (ksEnv qual (xS f) s.heap.objs.size fI (.ref cda) cc).kindOf "self" = some .local := by rfl
  obtain ⟨oC, hC1, hC2⟩ : ∃ oD, h₁.get? C = some oD ∧ oD.data = .cls { name := nm, bases := bs, mro := .ref C :: bm, ns := N, qualname := q, hasDict := true, slotNames := sn, subclasses := sub, abstract := ab, collection := col, hasDel := false } := ⟨_, X₁ _ _ hC, rfl⟩
  have hkf := xS_loc (qual := qual) (L := s.heap.objs.size) (a := fI) (cd := .ref cda) (cc := cc) T.fn1
  refine ks_wpAt_super_base (env := ksEnv qual (xS f) s.heap.objs.size fI (.ref cda) cc) (f := fI) (ar := { arg := "self", annotation := none, pos := p1 }) ?k1 ?k2 (by decide) rfl (X₁ _ _ ho) rfl rfl rfl (X₁ _ _ hcode) rfl hvs hfile T.top ?_
  case k1 => exact xS_sup T.fS
  case k2 => exact xS_cls T.fK
  refine ks_loadName_global rfl ?k1 (Calls.loadGlobal_builtin (M.glob.keeps F₁.keep) T.gS (hb1.keeps F₁.keep) ((hb2 _ (by decide +kernel)).trans (by decide +kernel : bootBuiltins "super" = some (.type "super"))) ⟨rfl, ?_⟩)
  case k1 => exact xS_sup T.fS
  refine wpAny_loadName_free rfl ?k2 rfl ⟨_, X₁ _ _ hcell, rfl⟩ ?_
  case k2 => exact xS_cls T.fK
  refine wpAny_loadName_local rfl hkS F₁.ns lself ?_
  refine ks_wpAny_isType_cls hC1 hC2 ⟨rfl, ?_⟩
  refine ks_wpAny_call_super hC1 hC2 I₁.at_ I₁.cls (fun c e => ?_) (looks_mroIn X₁ T.mC) (fun h' e k => ?_)
  · cases e
  obtain ⟨F₂, N₂, l₂⟩ := ks_newsPush (s := ⟨h₁, s.gens, s.drawn, s.toks + 2, s.os⟩) F₁ N₁ rfl e k
  refine kxs_method (s := ⟨h', s.gens, s.drawn, s.toks + 2, s.os⟩) kxs_ValueError F₂ X N₂ List.mem_cons_self (InstAt.of_exc0 N₂ (List.mem_cons_of_mem _ List.mem_cons_self)) T.tp T.sup T.sV (by decide) (fun u h'' F₃ N₃ l₃ => ?_)
  refine kxs_callWith1 N₃ List.mem_cons_self ?_
  refine spliced_more (Calls.Constant_str (spliced_none ⟨kxs_at N₃ List.mem_cons_self, ?_⟩))
  have lx2 : x < h₁.objs.size := l₂ (x, excObj C t0 none .none) List.mem_cons_self
  have lx3 : x < u := l₃ (x, excObj C t0 none .none) (List.mem_cons_of_mem _ List.mem_cons_self)
  refine kxs_call F₃ X N₃ F.excBase_ValueError T.ini List.mem_cons_self (UpdF.tail (Nat.ne_of_gt lx3) (UpdF.tail (Nat.ne_of_gt lx2) (UpdF.head (fun p hp => nomatch hp)))) (by rw [sizeLine_eq]; show 1 ≤ 16777216; decide) (fun t1 h4 F₄ N₄ l₄ => ?_)
  -- self.f = f
  have X₄ : K.In h4 := X.keeps F₄.keep
  have hx4 : h4.get? x = some (excObj C t1 none .none) := (N₄ (x, excObj C t1 none .none) (by simp)).1
  refine wpAt_of_wpAny (wpAny_execs_cons (plainObj_wpAny_Assign_Attribute (wpAny_Name (wpAny_loadName_local rfl hkf F₄.ns lf (wpAny_Name (wpAny_loadName_local rfl hkS F₄.ns lself ?_) (by decide))) T.fd)))
  refine set_plain X₄ (ox := excO C t1) (od := none) ⟨hx4, rfl, rfl, trivial⟩ T.sa ?_
  refine exc_osa X₄ hx4 hcl (show refsVE (.ref C :: bm) = true from hbm) rfl T.noN (fun h₅ tk₅ dx k₅ dn dne hx₅ hn₅ => ?_)
  refine wpAny_execs_nil (hq h₅ tk₅ dx t1 ⟨fun b o e => k₅ b o (fun z => ?_) (F₄.keep b o e), hx₅, ?_, dne, hn₅⟩)
  · rw [z, hxn] at e
    cases e
  · have q1 : s.heap.objs.size < h4.objs.size := F₄.ns.lt
    exact Nat.le_trans hsz (Nat.le_of_lt (Nat.lt_of_lt_of_le q1 dn))
/-- a made error -/
structure XMade (h h' : Heap) (e C d : Addr) (f : Str) (v : Value) : Prop where
  keep : ∀ b o, h.get? b = some o → h'.get? b = some o
  new : h.objs.size ≤ e
  obj : ∃ oe vs, h'.get? e = some oe ∧ oe.cls = .ref C ∧ oe.dict = some d ∧ oe.data = .fields vs ∧ vs[1]? = some .none
  dbig : h.objs.size ≤ d
  dne : d ≠ e
  ns : h'.Ns1 d (fun y => if y = f then some v else none)
theorem x_made (T : XTxt prog K mg f C fI) {v : Value} (M : L2.Mod K mg s.heap) (hroom : A.depth + 1 < recursionLimit)
    (hq : ∀ h' tk e d, XMade s.heap h' e C d f v → R (.ok (.ret (.ref e))) { s with heap := h', toks := tk }) :
    codeAny (model prog w) A (.call (.ref C) ⟨[v], []⟩) R s := by
  obtain ⟨nm, q, N, bs, bm, sn, sub, ab, col, dd, k0, k1, k2, k3, k5, hC, hbm⟩ := T.cls
  obtain ⟨hp, g, dr, tk, os⟩ := s
  have X : K.In hp := M.kin
  have k : ∀ b o, hp.get? b = some o → ((hp.push (kdv_tup [v])).push (excO C hp.objs.size)).get? b = some o := fun b o e => Heap.get?_push_of_some _ (Heap.get?_push_of_some _ e)
  have hget : ((hp.push (kdv_tup [v])).push (excO C hp.objs.size)).get? (hp.objs.size + 1) = some (excO C hp.objs.size) := by heap_get
  have hnone : hp.get? (hp.objs.size + 1) = none := by
    cases e : hp.get? (hp.objs.size + 1) with
    | none => rfl
    | some o => exact absurd (Nat.lt_of_succ_lt (Heap.lt_size e)) (Nat.lt_irrefl _)
  refine call_own F.excBase_ValueError (fun X => refsVE_contains X bm hbm) (X _ _ hC) (looks_findIn X T.iC) (fun self => bind_fn X self T.tC) (by rw [sizeLine_eq]; show 1 ≤ 16777216; decide) ?_
  refine x_init (s := ⟨(hp.push (kdv_tup [v])).push (excO C hp.objs.size), g, dr, tk, os⟩) T M k hnone ?_ hget ?_ fun h' tk' dx t1 Y => ?_
  · show hp.objs.size ≤ ((hp.push (kdv_tup [v])).push (excO C hp.objs.size)).objs.size
    rw [Heap.size_push, Heap.size_push]
    omega
  · show A.depth + 1 < recursionLimit
    exact hroom
  · exact ⟨rfl, hq h' tk' (hp.objs.size + 1) dx ⟨Y.keep, Nat.le_succ _, ⟨_, _, Y.obj, rfl, rfl, rfl, rfl⟩, Y.dbig, Y.dne, Y.ns⟩⟩
end
end XW
end PySem
namespace L2
open PySem PySem.Spec PyProof.Rows
theorem relO_x {f : Str} {v : V} {v' : Value} (r : RelV v v') (g : Str) : RelO (List.lookup g [(f, v)]) (if g = f then some v' else none) := by
  by_cases hw : g = f
  · subst hw
    rw [if_pos rfl]
    have q : List.lookup g [(g, v)] = some v := by simp [List.lookup]
    rw [q]
    exact r
  · rw [if_neg hw]
    have qw : (g == f) = false := by simpa using hw
    have q2 : List.lookup g [(f, v)] = none := by simp [List.lookup, qw]
    rw [q2]
    trivial
section
variable {X : Cx} {C fI : Addr} {f : Str}
/-- C(e) -/
def tMkX (f : Str) (C : Addr) (ta : TA) : St → Hp → XK → Prop := fun σ H Q => ta σ H fun vs H1 => ∃ v, vs = [v] ∧ ∀ d, H1 d = none → Q (.ref C) (some d) (upd H1 d (.xd [(f, v)]))
theorem Inv.mod1 {pins : List (Addr × Obj)} {σ : St} {H : Hp} {s : Shared} (I : Inv X pins σ H s) : Mod X.K X.mg s.heap :=
  ⟨I.kIn, I.mod.glob.keeps I.bk, let ⟨mb, h1, h2⟩ := I.mod.blt; ⟨mb, h1.keeps I.bk, h2⟩, I.nolimit⟩
theorem pmk_x {nm : Str} {a : Expr} {ta : TA} {p pos : Pos} {k : Nat} (T : PySem.XW.XTxt X.prog X.K X.mg f C fI) (gC : X.mg nm = some (.ref C)) (hr : Room k X.A) (ha : PA X [a] ta) (hg : Gl X nm := by rfl)
    (hdb : (nm == ("__debug__" : Str)) = false := by decide) (he : starEach (a :: []) X.env = (false, eval a X.env) :: starEach [] X.env := by rfl) (hpl : (backTo pos (starEach [] X.env)).any (·.1) = false := by rfl) :
    PMk X (.Call (.Name nm p) [a] [] pos) (tMkX f C ta) := by
  intro pins s σ H Q I h
  refine wpAny_Call_Name_kw (ld_glob I hg gC ?_ hdb)
  refine PySem.W.callWith_K (h₀ := X.base) I.ok.mod.kin T.kC (thn (ha.run pos pins s σ H _ I h) fun us s1 hh => ?_) he hpl
  obtain ⟨vs, H1, I1, r1, v, ev, q1⟩ := hh
  subst ev
  refine ⟨I1.kIn, ?_⟩
  cases r1 with
  | cons rv rn =>
    rename_i v' us'
    cases rn
    show wpAny _ _ (call (.ref C) [v']) _ _ _
    have hmod := I1.mod1
    obtain ⟨hp, g, dr, tk, os⟩ := s1
    refine wpAny_call (PySem.XW.x_made T hmod (by have := hr.dp; omega) fun h' tk' e d M => ?_)
    show MkP X pins σ Q (.ref e) ⟨h', g, dr, tk', os⟩
    obtain ⟨oe, fv, hoe, hc, hd, hdat, h1⟩ := M.obj
    have hns := M.ns
    obtain ⟨G', g1, g2⟩ := restrict h' fun b => decide (b ≠ e)
    have gk : ∀ b, b ≠ e → G'.get? b = h'.get? b := fun b hb => g1 b (decide_eq_true hb)
    have ge : G'.get? e = none := g2 e (by simp)
    have old : ∀ b o, hp.get? b = some o → G'.get? b = some o := fun b o q => (gk b (Nat.ne_of_lt (Nat.lt_of_lt_of_le (Heap.lt_size q) M.new))).trans (M.keep b o q)
    have ob : ObjOk X.prog X.w (upd H1 d (.xd [(f, v)])) G' d (.xd [(f, v)]) :=
      ⟨_, hns.at (fun o q => (gk d M.dne).trans q), fun g => relO_x rv g⟩
    have J : Inv X pins σ (upd H1 d (.xd [(f, v)])) ⟨G', g, dr, tk', os⟩ := I1.laid (t' := tk') old M.dbig ob
    refine ⟨e, oe, fv, ⟨G', g, dr, tk', os⟩, _, .ref C, some d, rfl, J, fun b o q => ?_, ge, hoe, ⟨hc, hd⟩, hdat, h1, ?_, rfl, I1.bare, raises_own T.exC T.tyC, q1 d (I1.hok.fresh M.dbig)⟩
    · by_cases hb : b = e
      · have q' : G'.get? b = some o := q
        rw [hb, ge] at q'; cases q'
      · exact (gk b hb).symm.trans q
    · rw [upd_ne (Ne.symm M.dne)]
      exact I1.hok.fresh M.new
/-- raise C(e) -/
def tRaiseX (f : Str) (C : Addr) (W : WX) (ta : TA) : TS := fun _ σ H => tMkX f C ta σ H fun cls d H' => W cls d σ H'
theorem ps_raiseX {nm : Str} {a : Expr} {ta : TA} {W : WX} {p pos pos2 : Pos} {k : Nat} (hc : X.calm = true) (T : PySem.XW.XTxt X.prog X.K X.mg f C fI) (gC : X.mg nm = some (.ref C)) (hr : Room k X.A) (tk : Takes X W) (ha : PA X [a] ta) (hg : Gl X nm := by rfl)
    (hdb : (nm == ("__debug__" : Str)) = false := by decide) (he : starEach (a :: []) X.env = (false, eval a X.env) :: starEach [] X.env := by rfl) (hpl : (backTo pos (starEach [] X.env)).any (·.1) = false := by rfl) :
    PS X (.Raise (some (.Call (.Name nm p) [a] [] pos)) none pos2) (tRaiseX f C W ta) := ps_raise hc tk (pmk_x T gC hr ha hg hdb he hpl)
end
end L2

/-! enumerate of a tuple -/
namespace PySem
open Sem (wp)
open AutoSeq1 (wpAny_loadPart')
theorem kx_enum_newT (l : Addr) (items : Array Value) (o : Obj) (hoc : o.cls = .type "tuple") (n0 : Nat) (hod : o.data = .seq items n0) :
    Meets (Builtin.«enumerate.__new__» ⟨[.type "enumerate", .ref l], []⟩) (fun _ R s => s.heap.get? l = some o ∧
      R (.ok (.ret (.ref (s.heap.objs.size + 1)))) { s with heap := (s.heap.push { cls := .type "tuple_iterator", data := .fields #[.ref l, .int 0 0] }).push { cls := .type "enumerate", data := .fields #[.none, .bool false, .ref s.heap.objs.size, rawInt 0, .none, .none] } }) :=
  .of_wp fun prog w A R s h => by
    obtain ⟨hp, g, d, tk, os⟩ := s; obtain ⟨hl, h⟩ := h
    have hsub := sub_enumerate
    have hT : Heap.IsTuple (Shared.heap ⟨hp, g, d, tk, os⟩) l items := ⟨_, hl, hoc, n0, hod⟩
    have hz : (hp.push { cls := .type "tuple_iterator", data := .fields #[.ref l, .int 0 0] }).objs.size = hp.objs.size + 1 := Heap.size_push ..
    obtain ⟨oc, od, dt, sl⟩ := o
    replace hoc : oc = .type "tuple" := hoc
    replace hod : dt = .seq items n0 := hod
    subst hoc hod
    wp_walk using wpAny_loadPart' hl
    refine wpAny_stack_any fun st => wpAny_pure ?_
    split
    · rename_i c _ _ _ _ _
      cases (c == Value.type "enumerate") <;> (wp_walk using wpAny_loadPart' hl, wpAny_pyIter_tuple hT; rw [hz]; exact ⟨_, rfl, h⟩)
    · wp_walk using wpAny_loadPart' hl, wpAny_pyIter_tuple hT
      rw [hz]; exact ⟨_, rfl, h⟩
section
variable {prog : Program} {w : World} {A : Around} {E : Value → Shared → Prop} {s : Shared}
theorem kx_call_enumT {l : Addr} {items : Array Value} {Q : Value → Shared → Prop} (hL : s.heap.IsTuple l items)
    (h : ∀ h', IsEnum h' (s.heap.objs.size + 1) s.heap.objs.size 0 .none → h'.IsTupleIter s.heap.objs.size l 0 → (∀ b o, s.heap.get? b = some o → h'.get? b = some o) → Q (.ref (s.heap.objs.size + 1)) { s with heap := h' }) :
    wpAny (model prog w) A (call (.type "enumerate") [.ref l]) Q E s := by
  obtain ⟨o, hl, hc, n, hd⟩ := hL
  refine callType_new F.called_enumerate (by decide) (F.typeCall_enumerate_1 _) (F.newCall_enumerate_1 _) (fun obj => F.args_object_init_2 obj _) F.entry_enumerate_new (kx_enum_newT l items o hc n hd) ⟨hl, ?_⟩
  have hz : (s.heap.push { cls := .type "tuple_iterator", data := .fields #[.ref l, .int 0 0] }).objs.size = s.heap.objs.size + 1 := Heap.size_push ..
  have he : IsEnum ((s.heap.push { cls := .type "tuple_iterator", data := .fields #[.ref l, .int 0 0] }).push { cls := .type "enumerate", data := .fields #[.none, .bool false, .ref s.heap.objs.size, rawInt 0, .none, .none] }) (s.heap.objs.size + 1) s.heap.objs.size 0 .none := by
    have z := Heap.get?_push_size (s.heap.push { cls := .type "tuple_iterator", data := .fields #[.ref l, .int 0 0] }) (o := { cls := .type "enumerate", data := .fields #[.none, .bool false, .ref s.heap.objs.size, rawInt 0, .none, .none] }) rfl
    rw [hz] at z; exact z
  exact ⟨⟨_, he, rfl⟩, h _ he ⟨_, Heap.get?_push_of_some _ (Heap.get?_push_size _ rfl), rfl, rfl⟩ fun b o x => Heap.get?_push_of_some _ (Heap.get?_push_of_some _ x)⟩
end
end PySem
namespace L2
open PySem PySem.Spec PyProof.Rows
theorem apart_cls {h : Heap} {a b : Addr} {oa ob : Obj} (ha : h.get? a = some oa) (hb : h.get? b = some ob) (hc : oa.cls ≠ ob.cls) : a ≠ b := fun z => hc (by
  subst z
  rw [ha] at hb
  cases hb
  rfl)
/-- the tuple at a as it stands, the items in new pairs with their indexes -/
def IteT (K : PySem.W.Frag) (a : Addr) : It :=
  ⟨fun i H => ∃ (xs : List V) (x : V), SqT K H a xs ∧ xs[i]? = some x, fun i H v H' => ∃ T x, v = .ref T ∧ H T = none ∧ H' = upd H T (.tup [.int (i : Nat), x]) ∧ ∀ xs, SqT K H a xs → xs[i]? = some x, fun i H => ∃ xs : List V, SqT K H a xs ∧ xs.length = i⟩
theorem turn_enumT {P : Program} {w : World} {K : PySem.W.Frag} {elts : List Expr} {kk : Nat} {tpos : Pos} (a e it : Addr) :
    Turn P w K (.Tuple elts kk tpos) (IteT K a) [e, it] e (fun i h => (∃ old, IsEnum h e it ((0 : Int) + (i : Nat)) old) ∧ h.IsTupleIter it a i ∧ e ≠ it) where
  mem := List.mem_cons_self
  obj := fun i h st b hb => by
    obtain ⟨⟨old, he⟩, ⟨o, ho, hc, hd⟩, _⟩ := st
    rcases (show b = e ∨ b = it by simpa using hb) with rfl | rfl
    · exact ⟨_, he, fun v q => nomatch q⟩
    · exact ⟨o, ho, fun v q => by rw [hd] at q; cases q⟩
  keep := fun i h h' ⟨⟨old, he⟩, hi, hne⟩ k => ⟨⟨old, k e (List.mem_cons_self) _ he⟩, hi.at fun o q => k it (by simp) o q, hne⟩
  item := by
    intro X hP hw hK hc i pins s σ H E I hf st hg
    subst hP hw hK
    obtain ⟨⟨old, he⟩, hit, hne⟩ := st
    obtain ⟨xs, x, hq, hx⟩ := hg
    obtain ⟨its, rv, p, hz⟩ := I.tuple hq
    obtain ⟨u, hu, ru⟩ := rv.get hx
    have hp : s.heap.IsTuple a its.toArray := p
    obtain ⟨oa, ha, hac, na, had⟩ := id hp
    have hae : e ≠ a := apart_cls he ha (by rw [hac]; exact fun q => by injection q with q; exact absurd q (by decide))
    have hai : a ≠ it := by
      obtain ⟨o, ho, hc', hd'⟩ := hit
      exact apart_cls ha ho (by rw [hac, hc']; exact fun q => by injection q with q; exact absurd q (by decide))
    have G := GoesN.enumFrom (prog := X.prog) (w := X.w) (A := X.A) (elts := elts) (x1 := kk) (pos := tpos) 0 (Draws.tuple (A := X.A.in1) (I.ok.hd hc) it a hai its.toArray) e hne (by simp [hne, hae]) (by simp)
    refine G.goes i s _ E ?_ ⟨⟨old, he⟩, hit, hp⟩ fun v h' tk hY hst hkeep htk => ?_
    · have z : i < its.length := (List.getElem?_eq_some_iff.mp hu).1
      simpa using z
    obtain ⟨T, t, y, rfl, hT, hy, o, hTo, hTc, nT, hTd⟩ := hY
    obtain ⟨⟨old', he'⟩, hit', hp'⟩ := hst
    have hyu : y = u := by
      have : its.toArray[i]? = some u := by simpa using hu
      rw [this] at hy
      exact (Option.some.inj hy).symm
    subst hyu
    have new : ObjOk X.prog X.w (upd H T (.tup [.int (i : Nat), x])) h' T (.tup [.int (i : Nat), x]) :=
      ⟨by show 2 ≤ sizeLine; decide, [.int ((0 : Int) + (i : Nat)) t, y], .cons ⟨t, by rw [Int.zero_add]⟩ (.cons ru .nil), ⟨o, hTo, hTc, nT, hTd⟩⟩
    have I1 : Inv X pins σ (upd H T (.tup [.int (i : Nat), x])) { s with heap := h', toks := tk } :=
      I.turnedNew (ch := [e, it]) (fun b ob hb q => hkeep b ob hb q) hf hT new
    refine ⟨.ref T, _, I1, rfl, ⟨_, x, rfl, I.hok.fresh hT, rfl, fun ys hy' => by rw [I.tuple_inj hy' hq]; exact hx⟩, ⟨⟨_, he'⟩, hit', hne⟩, fun b hb => ?_⟩
    have hb' : b < s.heap.objs.size := by
      rcases (show b = e ∨ b = it by simpa using hb) with rfl | rfl
      · exact Heap.lt_size he
      · obtain ⟨_, q, _⟩ := hit
        exact Heap.lt_size q
    rw [upd_ne (Nat.ne_of_lt (Nat.lt_of_lt_of_le hb' hT))]
    exact (hf b hb).1
  done := by
    intro X hP hw hK hc i pins s σ H E I hf st hg
    subst hP hw hK
    obtain ⟨⟨old, he⟩, hit, hne⟩ := st
    obtain ⟨xs, hq, hx⟩ := hg
    obtain ⟨its, rv, p, hz⟩ := I.tuple hq
    have hp : s.heap.IsTuple a its.toArray := p
    obtain ⟨oa, ha, hac, na, had⟩ := id hp
    have hae : e ≠ a := apart_cls he ha (by rw [hac]; exact fun q => by injection q with q; exact absurd q (by decide))
    have hai : a ≠ it := by
      obtain ⟨o, ho, hc', hd'⟩ := hit
      exact apart_cls ha ho (by rw [hac, hc']; exact fun q => by injection q with q; exact absurd q (by decide))
    have G := GoesN.enumFrom (prog := X.prog) (w := X.w) (A := X.A) (elts := elts) (x1 := kk) (pos := tpos) 0 (Draws.tuple (A := X.A.in1) (I.ok.hd hc) it a hai its.toArray) e hne (by simp [hne, hae]) (by simp)
    have hn : i = its.toArray.size := by
      have := rv.length
      simp
      omega
    subst hn
    exact wpAny_mono (G.stops s (fun s1 => Inv X pins σ H s1) E ⟨⟨old, he⟩, hit, hp⟩ fun h' tk hk htk => I.turnedL (ch := [e, it]) (fun b o hb q => hk b o hb q) hf) (fun r s1 z => z) fun _ _ z => z
  self := fun A i s Q E ⟨⟨_, he⟩, _⟩ h => wpAny_pyIter_enum he h
/-- enumerate of a list or of a tuple -/
def iEnumA (K : PySem.W.Frag) (ta : TA) : TI := fun σ H R => ta σ H fun vs H1 => ∃ a xs, vs = [.ref a] ∧ ((SqL K H1 a xs ∧ R (Ite K a) H1) ∨ (SqT K H1 a xs ∧ R (IteT K a) H1))
theorem pi_enumA {X : Cx} {e : Expr} {ta : TA} {p pos tpos : Pos} {elts : List Expr} {kk : Nat} (hg : Gl X "enumerate") (hm : X.mg "enumerate" = none) (ha : PA X [e] ta) (hs : starEach [e] X.env = [(false, eval e X.env)] := by rfl) :
    PI X (.Tuple elts kk tpos) (.Call (.Name "enumerate" p) [e] [] pos) (iEnumA X.K ta) := by
  refine ⟨fun pins s σ H R I h => ?_⟩
  refine Call_ (ld_blt I hg hm boot_enumerate (PyProof.Rows.callWith_type1 (thn (ha.run pos pins s σ H _ I h) fun us s1 ⟨vs, H1, I1, r1, q1⟩ => ?_) hs rfl))
  obtain ⟨a, xs, rfl, q1⟩ := q1
  cases r1 with
  | cons r rr =>
    cases rr
    cases r
    have old : ∀ b, b = s1.heap.objs.size + 1 ∨ b = s1.heap.objs.size → s1.heap.objs.size ≤ b := fun b z => by rcases z with rfl | rfl <;> omega
    rcases q1 with ⟨hq, q⟩ | ⟨hq, q⟩
    · obtain ⟨its, rv, p', hz⟩ := I1.list hq
      refine call_enumerate_list p'.isList fun h' he hit hsz hk => wpAny_pyIter_enum he ?_
      refine ⟨s1.heap.objs.size + 1, [s1.heap.objs.size + 1, s1.heap.objs.size], _, _, H1, rfl, I1.kept (t' := s1.toks) hk, turn_enum a (s1.heap.objs.size + 1) s1.heap.objs.size, ⟨⟨.none, he⟩, hit, Nat.succ_ne_self _⟩, fun b hb => ?_, q⟩
      have hle := old b (by simpa using hb)
      exact I1.fpOk hle (I1.hok.fresh hle)
    · obtain ⟨its, rv, p', hz⟩ := I1.tuple hq
      refine kx_call_enumT (show s1.heap.IsTuple a its.toArray from p') fun h' he hit hk => wpAny_pyIter_enum he ?_
      refine ⟨s1.heap.objs.size + 1, [s1.heap.objs.size + 1, s1.heap.objs.size], _, _, H1, rfl, I1.kept (t' := s1.toks) hk, turn_enumT a (s1.heap.objs.size + 1) s1.heap.objs.size, ⟨⟨.none, he⟩, hit, Nat.succ_ne_self _⟩, fun b hb => ?_, q⟩
      have hle := old b (by simpa using hb)
      exact I1.fpOk hle (I1.hok.fresh hle)
theorem walk_enumT {K : PySem.W.Frag} {a : Addr} {xs : List V} : Walk (IteT K a) xs.length (fun H => SqT K H a xs) (YPair (fun i => some (.int (i : Nat))) (fun i => xs[i]?)) := by
  refine ⟨fun i _ hi q => ⟨xs, xs[i], q, by simp [hi]⟩, fun _ q => ⟨xs, q, rfl⟩, fun i H v H' _ q y => ?_⟩
  obtain ⟨T, x, h1, h2, h3, h4⟩ := y
  exact ⟨T, .int (i : Nat), x, h1, h2, h3, rfl, h4 xs q⟩
/-- the loop over enumerate of a list or of a tuple -/
theorem for_enumA {K : PySem.W.Frag} {a : Addr} {xs : List V} {g : TG} {tb : TS} {D : Ends} {σ : St} {H : Hp} (hq : SqL K H a xs ∨ SqT K H a xs) (Pv : Nat → St → Hp → Prop) (h0 : Pv 0 σ H)
    (hl : SqL K H a xs → ∀ i σ' H', Pv i σ' H' → SqL K H' a xs) (ht : SqT K H a xs → ∀ i σ' H', Pv i σ' H' → SqT K H' a xs)
    (hs : ∀ i x T σ H', xs[i]? = some x → Pv i σ H' → H' T = none → g (.ref T) σ (upd H' T (.tup [.int (i : Nat), x])) fun σ2 H2 => tb { D with nx := Pv (i + 1), ct := Pv (i + 1), bk := D.nx } σ2 H2) (hd : ∀ σ H', Pv xs.length σ H' → D.nx σ H') :
    (SqL K H a xs ∧ ∃ W : Nat → Nat → St → Hp → Prop, (∃ m, W 0 m σ H) ∧ ∀ i m σ H, W i m σ H →
      ((Ite K a).stop i H ∧ D.nx σ H) ∨ ((Ite K a).go i H ∧ ∃ N : St → Hp → Prop, (∀ σ' H', N σ' H' → ∃ m', m' < m ∧ W (i + 1) m' σ' H') ∧ ∀ x H', (Ite K a).yld i H x H' → g x σ H' fun σ2 H2 => tb { D with nx := N, ct := N, bk := D.nx } σ2 H2)) ∨
    (SqT K H a xs ∧ ∃ W : Nat → Nat → St → Hp → Prop, (∃ m, W 0 m σ H) ∧ ∀ i m σ H, W i m σ H →
      ((IteT K a).stop i H ∧ D.nx σ H) ∨ ((IteT K a).go i H ∧ ∃ N : St → Hp → Prop, (∀ σ' H', N σ' H' → ∃ m', m' < m ∧ W (i + 1) m' σ' H') ∧ ∀ x H', (IteT K a).yld i H x H' → g x σ H' fun σ2 H2 => tb { D with nx := N, ct := N, bk := D.nx } σ2 H2)) := by
  rcases hq with q | q
  · refine .inl ⟨q, for_it (walk_enum (K := K) (a := a) (xs := xs)) Pv h0 (fun i σ' H' _ p => hl q i σ' H' p) ?_ hd⟩
    rintro i x σ' H1 H2 hi p ⟨T, x1, y, rfl, hT, rfl, e1, e2⟩
    cases e1
    exact hs i y T σ' H1 e2 p hT
  · refine .inr ⟨q, for_it (walk_enumT (K := K) (a := a) (xs := xs)) Pv h0 (fun i σ' H' _ p => ht q i σ' H' p) ?_ hd⟩
    rintro i x σ' H1 H2 hi p ⟨T, x1, y, rfl, hT, rfl, e1, e2⟩
    cases e1
    exact hs i y T σ' H1 e2 p hT
end L2

/-! tuple of a dict -/
namespace PySem
open Sem (wp)
open AutoSeq1 (wpAny_loadPart')
open PySem.W
section
variable {prog : Program} {w : World} {A : Around} {E : Value → Shared → Prop} {s : Shared} {T : String} {r d : Addr} {n : Nat} {P : Nat → Value → Prop} {OK : Heap → Prop}
theorem kx_collect {Q : List Value → Shared → Prop} (S : KdlSrc prog w T r d n P OK) (hh : A.handled = none) (hok : OK s.heap) (hn : n ≤ sizeLine)
    (hQ : ∀ h' tk (acc : Array Value), s.heap.objs.size < h'.objs.size → (∀ b o, s.heap.get? b = some o → h'.get? b = some o) → ItemsOf P acc n → Q acc.toList { s with heap := h', toks := tk }) :
    wpAny (model prog w) A (collect (.ref r)) Q E s := by
  unfold collect
  refine wpAny_bind (wpAny_runValue (codeAny_builtin F.entry_proto_collect ?_))
  rw [Around.under_plainId F.plain_proto_collect _]
  show wpAny _ A.in1 (newList [] >>= fun l => again (.builtin "list.__iadd__" ⟨[l, .ref r], []⟩)) _ _ s
  refine wpAny_bind (wpAny_newObj_type ?_)
  refine wpAny_pure ⟨plainId_quiet F.plain_list_iadd _, codeAny_builtin F.entry_list_iadd ?_⟩
  rw [Around.under_plainId F.plain_list_iadd _]
  show wpAny _ A.in1 (Builtin.List.listExtendWith (.ref s.heap.objs.size) (.ref r) (.ref s.heap.objs.size)) _ _ _
  have hS : (s.heap.push { cls := .type "list", data := .seq ([] : List Value).toArray }).get? s.heap.objs.size = some { cls := .type "list", data := .seq #[] } := Heap.get?_push_size _ rfl
  have hlt := S.there _ hok
  have key : ∀ h' tk (acc : Array Value) c, (∀ b o, b ≠ s.heap.objs.size → (s.heap.push { cls := .type "list", data := .seq ([] : List Value).toArray }).get? b = some o → h'.get? b = some o) → h'.get? s.heap.objs.size = some { cls := .type "list", dict := none, data := .seq acc c, slots := #[] } → ItemsOf P acc n →
      Q acc.toList { s with heap := h', toks := tk } := fun h' tk acc c hk hS' hacc => hQ h' tk acc (Heap.lt_size hS') (fun b o e => hk b o (Nat.ne_of_lt (Heap.lt_size e)) (Heap.get?_push_of_some _ e)) hacc
  refine wpAny_mono (kdl_extend (s := { s with heap := s.heap.push { cls := .type "list", data := .seq ([] : List Value).toArray } }) (R := fun r s' => ∃ h' tk acc c, r = .ok (.ret (.ref s.heap.objs.size)) ∧ s' = { s with heap := h', toks := tk } ∧ h'.get? s.heap.objs.size = some { cls := .type "list", dict := none, data := .seq acc c, slots := #[] } ∧ Q acc.toList { s with heap := h', toks := tk })
    S hh (S.keep s.heap _ hok fun b _ o e => Heap.get?_push_of_some _ e) s.heap.objs.size (Nat.ne_of_gt hlt.1) (Nat.ne_of_gt hlt.2) (.ref s.heap.objs.size) 0 hS (fun h' tk acc c hk hS' hacc => ⟨h', tk, acc, c, rfl, rfl, hS', key h' tk acc c hk hS' hacc⟩) hn) (fun fin s' z => ?_) fun e s' z => ?_
  · cases fin with
    | done f =>
      obtain ⟨h', tk, acc, c, hf, rfl, hS', hq⟩ := z
      cases hf
      exact wpAny_bind (wpAny_load hS' (wpAny_pure hq))
    | again c' =>
      refine ⟨z.1, codeAny_mono z.2 fun r s'' z' => ?_⟩
      obtain ⟨h', tk, acc, c, rfl, rfl, hS', hq⟩ := z'
      exact wpAny_bind (wpAny_load hS' (wpAny_pure hq))
  · obtain ⟨h', tk, acc, c, hf, _⟩ := z
    cases hf
theorem kx_tuple_newIn (S : KdlSrc prog w T r d n P OK) (hne : (Value.type T == Value.type "tuple") = false) (hn : n ≤ sizeLine) :
    MeetsIn prog w (Builtin.«tuple.__new__» ⟨[.type "tuple", .ref r], []⟩) (fun A R s => A.handled = none ∧ OK s.heap ∧ ∀ (h' : Heap) (tk : Nat) (acc : Array Value), s.heap.objs.size < h'.objs.size → (∀ b o, s.heap.get? b = some o → h'.get? b = some o) → ItemsOf P acc n →
        R (.ok (.ret (.ref h'.objs.size))) { s with heap := h'.push { cls := .type "tuple", data := .seq acc }, toks := tk }) :=
  .of_wp fun A R s h => by
    obtain ⟨hh, hok, h⟩ := h
    have hsub := sub_tuple_self
    have hinit := init_tuple_lookup
    have hmh := madeHere_tuple
    have hT : s.TypeIs (.ref r) T := S.type s hok
    have hh1 : A.in1.handled = none := hh
    wp_walk using wpAny_typeOf hT, kx_collect S hh1 hok hn
    intro h' tk acc hlt hk hacc
    show wpAny _ _ (Builtin.Tuple.tupleExact acc.toList.toArray >>= fun v => ret v) _ _ _
    unfold Builtin.Tuple.tupleExact
    refine wpAny_bind (wpAny_newObj_type ?_ (show acc.toList.toArray.size ≤ sizeLine by rw [Array.toArray_toList, hacc.1]; exact hn))
    refine wpAny_pure ⟨_, rfl, ?_⟩
    rw [show acc.toList.toArray = acc from Array.toArray_toList]
    exact h h' tk acc hlt hk hacc
theorem kx_call_tupleK {Q : Value → Shared → Prop} (S : KdlSrc prog w T r d n P OK) (hne : (Value.type T == Value.type "tuple") = false) (hn : n ≤ sizeLine) (hh : A.handled = none) (hok : OK s.heap)
    (h : ∀ (h' : Heap) (tk : Nat) (acc : Array Value), s.heap.objs.size < h'.objs.size → (∀ b o, s.heap.get? b = some o → h'.get? b = some o) → ItemsOf P acc n → Q (.ref h'.objs.size) { s with heap := h'.push { cls := .type "tuple", data := .seq acc }, toks := tk }) :
    wpAny (model prog w) A (call (.type "tuple") [.ref r]) Q E s :=
  callType_newIn F.called_tuple (by decide) (F.typeCall_tuple_1 _) (F.newCall_tuple_1 _) (fun obj => F.args_object_init_2 obj _) F.entry_tuple_new (kx_tuple_newIn S hne hn)
    ⟨hh, hok, fun h' tk acc hlt hk hacc => ⟨⟨_, Heap.get?_push_size _ rfl, rfl⟩, h h' tk acc hlt hk hacc⟩⟩
end
end PySem
namespace L2
open PySem PySem.Spec PyProof.Rows
/-- tuple(d): the keys in a new tuple -/
def rTupD : List V → Hp → VK → Prop := fun xs H Q => ∃ p kvs, xs = [.ref p] ∧ H p = some (.dK kvs) ∧ ∀ q, H q = none → Q (.ref q) (upd H q (.tup (kvs.map fun kv => kV kv.1)))
theorem call_tuple_dK {X : Cx} (hc : X.calm = true) : CallR X (.type "tuple") rTupD := by
  intro pins s σ H xs us Q I r h
  obtain ⟨p, kvs, rfl, hk, q⟩ := h
  obtain ⟨u, rfl, rx⟩ := vals1 r
  obtain rfl : u = Value.ref p := rx
  obtain ⟨z, lo, vs, rk, hd⟩ := (show ObjOk X.prog X.w H s.heap p (.dK kvs) from I.hok p _ hk)
  obtain ⟨ep, hat⟩ := hd.dictAt
  have hl : kvs.length = vs.length := Paired.length rk
  refine kx_call_tupleK (PySem.W.kdl_dict (knd := mixKind X.prog X.w) (kvs := vs) (ep := ep) lo) (by decide) (by rw [← hl]; exact z) (I.ok.hd hc) hat fun h' tk acc hgrow hkeep hacc => ?_
  have hsz : s.heap.objs.size ≤ h'.objs.size := Nat.le_of_lt hgrow
  have nn : H h'.objs.size = none := I.hok.fresh hsz
  have ho : ObjOk X.prog X.w (upd H h'.objs.size (.tup (kvs.map fun kv => kV kv.1))) (h'.push { cls := .type "tuple", data := .seq acc }) h'.objs.size (.tup (kvs.map fun kv => kV kv.1)) := by
    refine ⟨by rw [List.length_map]; exact z, acc.toList, ?_, ⟨_, Heap.get?_push_size _ rfl, rfl, 0, by rw [Array.toArray_toList]⟩⟩
    have el : acc.toList.length = acc.size := by simp
    refine vals_of_at (by rw [List.length_map, el, hacc.1, hl]) fun j x w h1 h2 => ?_
    obtain ⟨k, y, hky, hi⟩ := hacc.2 j w (by rw [← Array.getElem?_toList]; exact h2)
    have e1 : (kvs.map (·.1))[j]? = some k := by
      rw [KV.keys rk, List.getElem?_map, hky] <;> rfl
    have e3 : (kvs.map fun kv => kV kv.1) = (kvs.map (·.1)).map kV := by rw [List.map_map] <;> rfl
    rw [e3, List.getElem?_map, e1] at h1
    cases h1
    exact keyIs_rel hi
  exact ⟨.ref h'.objs.size, _, I.laid (fun b o e => Heap.get?_push_of_some _ (hkeep b o e)) hsz ho, rfl, q _ nn⟩
end L2

/-! isinstance of a def of the text -/
namespace PySem
open Sem (wp)
namespace KXF
theorem slot_fn_ga : Slot "function" "__getattribute__" "object.__getattribute__" :=
  .of (owner := "object") (n := "__getattribute__") (by rw [typeLookup_type, builtinLookup_eq_fast]; kernel_rfl) (by decide +kernel) (by decide +kernel) (by decide +kernel)
    (by first | exact .inl (by decide +kernel) | exact .inr (by decide +kernel)) (by rw [isSubtype_type]; kernel_rfl)
theorem entry_obj_ga : entryFor table "object.__getattribute__" = some Builtin.«object.__getattribute__» := entryFor_of_tree (by kernel_rfl)
theorem args_obj_ga (a b : Value) : argsOk "object.__getattribute__" ⟨[a, b], []⟩ := by unfold argsOk; kernel_rfl
theorem lk_fn_class : typeLookup (.type "function") "__class__" = pure (some (.builtin "object.__class__")) := by rw [typeLookup_type, builtinLookup_eq_fast]; kernel_rfl
theorem sub_fn_owner : isSubtype (.type "function") (.type (".".intercalate ("object.__class__".cutAt '.').dropLast)) = pure true := by
  rw [F.owner_object_class, isSubtype_type]; kernel_rfl
end KXF
section
variable {prog : Program} {w : World} {A : Around} {E : Value → Shared → Prop} {h : Heap} {g : Array GenState} {d : Drawn} {t : Nat} {os : OsState} {a : Addr} {o : Obj}
theorem kxf_get {R : Result → Shared → Prop} (hx : h.get? a = some o) (hc : o.cls = .type "function") (hq : R (.ok (.ret (.type "function"))) ⟨h, g, d, t, os⟩) :
    codeAny (model prog w) A (.call (.builtin "getset_descriptor.__get__") ⟨[.builtin "object.__class__", .ref a, .type "function"], []⟩) R ⟨h, g, d, t, os⟩ := by
  have hT : (⟨h, g, d, t, os⟩ : Shared).TypeIs (.ref a) "function" := ⟨_, hx, hc⟩
  have f8 := KXF.sub_fn_owner
  refine codeAny_call_builtin F.slot_gs_get.plain F.entry_gs_get (F.slot_gs_get.check _ _ _ _ _ _ _ _ (show (⟨h, g, d, t, os⟩ : Shared).TypeIs (.builtin "object.__class__") "getset_descriptor" from F.typeOf_object_class) (F.args_gs_get _ _ _) ?_)
  repeat (any_goals (first | wp_step | assumption))
  refine ⟨Code.quiet_builtin _ (by decide +kernel), codeAny_builtin F.entry_object_class ?_⟩
  repeat (any_goals (first | wp_step | assumption))
theorem kxf_entry {tk : Tok} {Q : Fin → Shared → Prop} (hx : h.get? a = some o) (hc : o.cls = .type "function") (hq : Q (.done (.ret (.type "function"))) ⟨h, g, d, t, os⟩) :
    wpAny (model prog w) A (Builtin.«object.__getattribute__» ⟨[.ref a, .str "__class__" tk], []⟩) Q E ⟨h, g, d, t, os⟩ := by
  have hT : (⟨h, g, d, t, os⟩ : Shared).TypeIs (.ref a) "function" := ⟨_, hx, hc⟩
  have f4 := KXF.lk_fn_class
  have f5 := F.typeOf_object_class
  have hT5 : (⟨h, g, d, t, os⟩ : Shared).TypeIs (.builtin "object.__class__") "getset_descriptor" := f5
  have f6 := F.slot_gs_get.lookup
  have f7 := F.slot_gs_set.lookup
  repeat (any_goals (first | wp_step | assumption))
  refine kxf_get hx hc ?_
  repeat (any_goals (first | wp_step | assumption))
theorem kxf_call {tk : Tok} {R : Result → Shared → Prop} (hx : h.get? a = some o) (hc : o.cls = .type "function") (hq : R (.ok (.ret (.type "function"))) ⟨h, g, d, t, os⟩) :
    codeAny (model prog w) A (.call (.builtin "object.__getattribute__") ⟨[.ref a, .str "__class__" tk], []⟩) R ⟨h, g, d, t, os⟩ :=
  codeAny_call_builtin KXF.slot_fn_ga.plain KXF.entry_obj_ga (KXF.slot_fn_ga.check _ _ _ _ _ _ _ _ (show (⟨h, g, d, t, os⟩ : Shared).TypeIs (.ref a) "function" from ⟨_, hx, hc⟩) (KXF.args_obj_ga _ _) (kxf_entry hx hc hq))
theorem kxf_by {tk : Tok} {Q : Value → Shared → Prop} (hx : h.get? a = some o) (hc : o.cls = .type "function") (hq : Q (.type "function") ⟨h, g, d, t, os⟩) : wpAny (model prog w) A (getAttrBy (.ref a) (.str "__class__" tk) false) Q E ⟨h, g, d, t, os⟩ := by
  have hT : (⟨h, g, d, t, os⟩ : Shared).TypeIs (.ref a) "function" := ⟨_, hx, hc⟩
  have f2 := KXF.slot_fn_ga.lookup
  have f3 := KXF.slot_fn_ga.bind (.ref a)
  repeat (any_goals (first | wp_step | assumption))
  refine kxf_call hx hc ?_
  repeat (any_goals (first | wp_step | assumption))
theorem kxf_attr {Q : Option Value → Shared → Prop} (hx : h.get? a = some o) (hc : o.cls = .type "function") (hq : Q (some (.type "function")) ⟨h, g, d, t + 1, os⟩) : wpAny (model prog w) A (getAttr? (.ref a) "__class__") Q E ⟨h, g, d, t, os⟩ := by
  unfold getAttr? getAttrBy?
  repeat (any_goals (first | with_reducible apply kxf_by hx hc | wp_step | assumption))
end
namespace W
theorem kitx_fn {K : Frag} {a : Addr} : KitX K (.ref a) (.type "function") (KitAt a "function") :=
  kitx_of kitAt_ty (fun {_ _ _ _ _ s} p k => by obtain ⟨h, g, d, t, os⟩ := s; obtain ⟨o, h1, h2⟩ := p; exact kxf_attr h1 h2 k)
end W
end PySem
namespace L2
open PySem PySem.Spec PyProof.Rows
/-- a value's type: as TyX tells, or a def of the text -/
inductive TyZ (K : PySem.W.Frag) (H : Hp) : V → Value → Prop where
  | x {v : V} {t : Value} (h : TyX K H v t) : TyZ K H v t
  | fn {a : Addr} {o : Obj} (e : K.lookup a = some o) (c : o.cls = .type "function") : TyZ K H (.ref a) (.type "function")
section
variable {X : Cx} {pins : List (Addr × Obj)} {σ : St} {H : Hp} {s : Shared}
theorem kit_ofZ {x : V} {u t : Value} (I : Inv X pins σ H s) (rx : RelV x u) (ty : TyZ X.K H x t) : ∃ P : Heap → Prop, PySem.W.KitX X.K u t P ∧ P s.heap ∧ u ≠ .builtin "__main__.__loader__#opaque" := by
  cases ty with
  | x h => exact kit_of I rx h
  | @fn a o e c =>
    cases (show u = Value.ref a from rx)
    exact ⟨_, PySem.W.kitx_fn, ⟨o, I.kIn a o e, c⟩, fun z => nomatch z⟩
end
/-- isinstance(x, c); isinstance(x, (c1, c2, ..)) -/
def rIsiZ (K : PySem.W.Frag) : List V → Hp → VK → Prop := fun xs H Q => ∃ (x c : V) (t u : Value) (b : Bool), xs = [x, c] ∧ ClsV c u ∧ TyZ K H x t ∧ PySem.W.kitOne K t u = some b ∧ Q (.bl b) H
def rIsiTZ (K : PySem.W.Frag) : List V → Hp → VK → Prop := fun xs H Q => ∃ (x : V) (tp : Addr) (cs : List V) (t : Value) (us : List Value) (b : Bool), xs = [x, .ref tp] ∧ H tp = some (.tup cs) ∧ Paired ClsV cs us ∧ TyZ K H x t ∧ PySem.W.kitAny K t us = some b ∧ Q (.bl b) H
section
variable {X : Cx}
theorem call_isiZ : CallR X (.builtin "isinstance") (rIsiZ X.K) := by
  intro pins s σ H xs us Q I r h
  obtain ⟨x, c, t, u, b, rfl, k, ty, e, q⟩ := h
  obtain ⟨u1, u2, rfl, r1, r2⟩ := vals2 r
  have e2 := k.eq r2
  subst e2
  obtain ⟨P, Z, p, hx⟩ := kit_ofZ I r1 ty
  exact PySem.W.kia_one Z I.kIn p e hx fun tk => ⟨.bl b, H, I.tok tk, rfl, q⟩
theorem call_isiTZ : CallR X (.builtin "isinstance") (rIsiTZ X.K) := by
  intro pins s σ H xs us Q I r h
  obtain ⟨x, tp, cs, t, ws, b, rfl, hT, k, ty, e, q⟩ := h
  obtain ⟨u1, u2, rfl, r1, r2⟩ := vals2 r
  cases (show u2 = Value.ref tp from r2)
  obtain ⟨P, Z, p, hx⟩ := kit_ofZ I r1 ty
  obtain ⟨_, its, rv, o, h1, h2, n, h3⟩ := (show ObjOk X.prog X.w H s.heap tp (.tup cs) from I.hok tp _ hT)
  have e3 := ClsV.all k rv
  subst e3
  obtain ⟨oc, od, dt, sl⟩ := o
  simp only at h2 h3
  subst h2 h3
  exact PySem.W.kia_tup Z I.kIn p h1 e hx fun tk => ⟨.bl b, H, I.tok tk, rfl, q⟩
end
end L2

/-! own == and its != against anything -/
namespace PySem.W
open PySem PySem.Spec PySem.Calls PyProof.Rows PyProof.V
section
variable {prog : Program} {w : World} {A : Around} {E : Value → Shared → Prop} {s : Shared} {K : Frag} {x C f : Addr} {ox : Obj} {od : Option Obj} {b tb : Value}
/-- object.__ne__ bound to an instance and called -/
theorem kxe_special {Q : Option Value → Shared → Prop} (X : K.In s.heap) (I : InstAt s.heap x ox C od) (hs : findIn K (.ref C) "__ne__" = some (some (.builtin "object.__ne__")))
    (h : wpAny (model prog w) A (call (.builtin "object.__ne__") [.ref x, b]) (fun v => Q (some v)) E s) : wpAny (model prog w) A (callSpecialIfBound? (.ref x) "__ne__" [b]) Q E s := by
  simp only [callSpecialIfBound?, bindSpecialIfBound?]
  refine wpAny_holding (wpAny_bind (wpAny_bind (wpAny_bind (I.type.here ((looks_findIn X hs).here (wpAny_bind (wpAny_askSetting (wpAny_ite ?_))))))))
  have bn : bindSpecial (.builtin "object.__ne__") (.ref x) = pure (.builtin "object.__ne__", [.ref x]) := F.cmp_object.ne.bind (.ref x)
  have fin : wpAny (model prog w) A (call (.builtin "object.__ne__") ([.ref x] ++ [b]) >>= fun v => pure (some v)) Q E s := wpAny_bind (wpAny_mono h (fun v s' h' => wpAny_pure h') fun _ _ h' => h')
  split
  · exact wpAny_bind (wpAny_of_eq bn (wpAny_pure (by exact fin)))
  · exact wpAny_tryCatch (wpAny_bind (wpAny_of_eq bn (wpAny_pure (by exact fin))))
theorem kxe_obj_ne {Q : Fin → Shared → Prop} (hu : A.units < cLine) (X : K.In s.heap) (I : InstAt s.heap x ox C od) (he : findIn K (.ref C) "__eq__" = some (some (.ref f))) (hf : isFn K (.ref f) = true)
    (h : wpAny (model prog w) A (call (.ref f) [.ref x, b]) (fun v s' => ∃ k, v = .bool k ∧ Q (.done (.ret (.bool (!k)))) s') E s) :
    wpAny (model prog w) A (Builtin.«object.__ne__» ⟨[.ref x, b], []⟩) Q E s := by
  unfold Builtin.«object.__ne__»
  repeat (first
    | with_reducible refine wpAny_cRoomFor hu ?_
    | (refine wpAny_bind (m := callSpecialIfBound? (.ref x) (Str.ofString "__eq__") [b]) (ifBound_K X I he hf (wpAny_mono h (fun r s' hr => by
          obtain ⟨k, rfl, hq⟩ := hr
          repeat (first | exact hq | exact wpAny_pure hq | exact wpAny_truthy_bool hq | (refine wpAny_bind (m := truthy (.bool _)) (wpAny_truthy_bool ?_)) | wp_step)) fun _ _ e => e)))
    | wp_step)
theorem kxe_call {Q : Value → Shared → Prop} (hu : A.units + 1 < cLine) (X : K.In s.heap) (I : InstAt s.heap x ox C od) (he : findIn K (.ref C) "__eq__" = some (some (.ref f))) (hf : isFn K (.ref f) = true) (ho : mroIn K C (.type "object") = some true)
    (h : wpAny (model prog w) A.in1 (call (.ref f) [.ref x, b]) (fun v s' => ∃ k, v = .bool k ∧ Q (.bool (!k)) s') E s) :
    wpAny (model prog w) A (call (.builtin "object.__ne__") [.ref x, b]) Q E s := by
  refine wpAny_call (codeAny_call_builtin F.cmp_object.ne.plain F.cmpEntry_ne (check_slot F.cmpKind_ne F.cmpSplit_ne (I.type.andThen (looks_mroIn X ho)) (F.cmpArgs_ne _ _) ?_))
  refine kxe_obj_ne (A := A.in1) hu X I he hf (wpAny_mono h (fun v s' hv => ?_) fun _ _ e => e)
  obtain ⟨k, rfl, hq⟩ := hv
  exact ⟨k, rfl, hq⟩
/-- x != b, x an instance whose class has its own == and object's != -/
theorem kxe_rich {Q : Value → Shared → Prop} (hu : A.units + 1 < cLine) (X : K.In s.heap) (I : InstAt s.heap x ox C od) (hb : Looks (model prog w) s.heap (typeOf b) tb) (hn : notFirst K C tb = true)
    (hs : findIn K (.ref C) "__ne__" = some (some (.builtin "object.__ne__"))) (he : findIn K (.ref C) "__eq__" = some (some (.ref f))) (hf : isFn K (.ref f) = true) (ho : mroIn K C (.type "object") = some true)
    (h : wpAny (model prog w) A.in1 (call (.ref f) [.ref x, b]) (fun v s' => ∃ k, v = .bool k ∧ Q (.bool (!k)) s') E s) : wpAny (model prog w) A (richCompare .NotEq (.ref x) b) Q E s := by
  have one : wpAny (model prog w) A (tryCompare (.ref x) (cmpInfo .NotEq).2.1 b) (fun r s' => ∃ v, r = some v ∧ Q v s') E s := by
    unfold tryCompare
    refine wpAny_bind (kxe_special X I hs (kxe_call hu X I he hf ho (wpAny_mono h (fun v s' hv => ?_) fun _ _ e => e)))
    obtain ⟨k, rfl, hq⟩ := hv
    exact ⟨k, rfl, wpAny_pure ⟨_, rfl, hq⟩⟩
  unfold richCompare
  simp only [oneThing_ref]
  refine wpAny_holding (wpAny_bind (wpAny_cRoomFor (Nat.lt_of_succ_lt hu) (wpAny_bind (I.type.here (wpAny_bind (hb.here ?_))))))
  split
  · rename_i q
    have e : subIn K tb (.ref C) = some false := (Bool.or_eq_true_iff.mp hn).elim (fun e => absurd q (by rw [beq_iff_eq.mp e]; simp)) fun e => beq_iff_eq.mp e
    refine wpAny_bind ((looks_subIn X e).here ?_)
    rw [if_neg Bool.false_ne_true]
    exact wpAny_bind (wpAny_mono one (fun r s' ⟨v, hv, hq⟩ => by subst hv; exact wpAny_pure hq) fun _ _ e => e)
  · refine wpAny_bind (wpAny_pure ?_)
    rw [if_neg Bool.false_ne_true]
    exact wpAny_bind (wpAny_mono one (fun r s' ⟨v, hv, hq⟩ => by subst hv; exact wpAny_pure hq) fun _ _ e => e)
end
end PySem.W
namespace L2
open PySem PySem.Spec PyProof.Rows
/-- an instance of C against anything: what the class's == promises, its answer b told as g b -/
def rOwn (K : PySem.W.Frag) (C : Addr) (sp : Sp) (E : XK) (g : Bool → Bool) : R2 := fun x y H Q => ∃ (a dx : Addr) (fs : List (Str × V)) (t : Value), x = .ref a ∧ H a = some (.ins C dx fs) ∧ TyZ K H y t ∧ PySem.W.notFirst K C t = true ∧
  sp [.ref a, y] H (fun v H' => ∃ b, v = .bl b ∧ Q (.bl (g b)) H') E
section
variable {X : Cx} {CX : CXT} {n : Nat} {C f : Addr} {fd : FuncData} {ps : List Str} {sp : Sp} {E : XK}
theorem own_run (F : FnOk X.prog X.w X.K X.mg X.base CX n f fd ps sp) (hb : Binds X.K fd ps []) (hx : Passes CX X E) {A : Around} {pins : List (Addr × Obj)} {σ : St} {H : Hp} {s : Shared} {a : Addr} {y : V} {u : Value} {g : Bool → Bool} {Q : VK}
    (hr : Room n A) (hA : A.frames = X.A.frames) (I : Inv X pins σ H s) (ry : RelV y u) (h : sp [.ref a, y] H (fun v H' => ∃ b, v = .bl b ∧ Q (.bl (g b)) H') E) :
    wpAny (model X.prog X.w) A (call (.ref f) [.ref a, u]) (fun v s' => ∃ b, v = .bool b ∧ EP X pins σ Q (.bool (g b)) s') X.xe s := by
  have hl := F.len _ _ _ _ h
  have e0 : Env0 X.prog X.w X.K X.mg X.base A X.stack s H := by
    have e := I.env0
    exact ⟨hA.trans e.frames, e.mod, e.bs, e.bsz, e.funs, e.frf, e.hok, e.bare⟩
  refine wpAny_call (codeAny_mono (F.run A X.stack s H ⟨[.ref a, u], []⟩ [.ref a, u] [.ref a, y] _ E hr e0 ?_ (.cons rfl (.cons ry .nil)) h) fun r s' hq => ?_)
  · have z := hb s [.ref a, u] I.kIn (by simpa using hl)
    simpa using z
  · cases r with
    | error e => exact hx pins σ H s e s' I hq
    | ok fl =>
      cases fl with
      | ret w =>
        obtain ⟨z, H', I', rz, b, ez, q⟩ := I.after hq
        subst ez
        cases rz
        exact ⟨b, rfl, .bl (g b), H', I', rfl, q⟩
      | next => exact False.elim hq
      | brk => exact False.elim hq
      | cont => exact False.elim hq
theorem op_eqO (F : FnOk X.prog X.w X.K X.mg X.base CX n f fd ps sp) (hr : Room n X.A) (hb : Binds X.K fd ps []) (hx : Passes CX X E)
    (hs : PySem.W.findIn X.K (.ref C) "__eq__" = some (some (.ref f))) (hf : PySem.W.isFn X.K (.ref f) = true) : OpR X (compareOp .Eq) (rOwn X.K C sp E id) := by
  intro pins s σ H x y v u Q I rx ry hq
  obtain ⟨a, dx, fs, t, rfl, ha, ty, hn, h⟩ := hq
  cases rx
  obtain ⟨mA, J, _⟩ := ins_get I.hok ha
  obtain ⟨od, J, _⟩ := J.look
  obtain ⟨m, hF⟩ := I.fr
  obtain ⟨P, Z, p, _⟩ := kit_ofZ I ry ty
  show wpAny (model X.prog X.w) X.A (richCompare .Eq (.ref a) u) (EP X pins σ Q) X.xe s
  refine PySem.W.cmp_K (op := .Eq) (tb := t) hr.units0 hF I.ok.mod.kin J (Z.ty _ _ I.kIn p) hn hs hf (wpAny_mono (own_run (g := id) F hb hx hr rfl I ry h) (fun v' s' z => ?_) fun _ _ e => e)
  obtain ⟨b, rfl, q⟩ := z
  exact q
theorem op_neO (F : FnOk X.prog X.w X.K X.mg X.base CX n f fd ps sp) (hr : Room (n + 1) X.A) (hb : Binds X.K fd ps []) (hx : Passes CX X E)
    (hs : PySem.W.findIn X.K (.ref C) "__eq__" = some (some (.ref f))) (hf : PySem.W.isFn X.K (.ref f) = true) (hne : PySem.W.findIn X.K (.ref C) "__ne__" = some (some (.builtin "object.__ne__"))) (ho : PySem.W.mroIn X.K C (.type "object") = some true) :
    OpR X (compareOp .NotEq) (rOwn X.K C sp E not) := by
  intro pins s σ H x y v u Q I rx ry hq
  obtain ⟨a, dx, fs, t, rfl, ha, ty, hn, h⟩ := hq
  cases rx
  obtain ⟨mA, J, _⟩ := ins_get I.hok ha
  obtain ⟨od, J, _⟩ := J.look
  obtain ⟨P, Z, p, _⟩ := kit_ofZ I ry ty
  show wpAny (model X.prog X.w) X.A (richCompare .NotEq (.ref a) u) (EP X pins σ Q) X.xe s
  refine PySem.W.kxe_rich (tb := t) (by have := hr.units; omega) I.kIn J (Z.ty _ _ I.kIn p) hn hne hs hf ho (wpAny_mono (own_run (g := not) (A := X.A.in1) F hb hx hr.in1 rfl I ry h) (fun v' s' z => ?_) fun _ _ e => e)
  obtain ⟨b, rfl, q⟩ := z
  exact ⟨b, rfl, q⟩
end
end L2

namespace RK
open PySem L2
def top (i : Nat) : Stmt := PySem.Challenge.pw_ringwalkers_k38_whole_notes_counted.main.body.getD i (.Pass ⟨0, 0, 0, 0⟩)
abbrev sIsInt : Stmt := top 11
abbrev sIsNumber : Stmt := top 12
abbrev sIsTimes : Stmt := top 13
abbrev sIsList : Stmt := top 14
abbrev sIsName : Stmt := top 15
abbrev sNeedNum : Stmt := top 17
abbrev sChoose : Stmt := top 19
abbrev sProduct : Stmt := top 20
abbrev sPower : Stmt := top 21
abbrev sNeedMost : Stmt := top 23
abbrev sInit : Stmt := inClass (top 25) 0
abbrev sWalkers : Stmt := inClass (top 25) 1
abbrev sEq : Stmt := inClass (top 25) 2
abbrev sWalkersOf : Stmt := top 26
abbrev sCountNotes : Stmt := top 28
abbrev sCountNoted : Stmt := top 29
abbrev sDiffs : Stmt := top 30
abbrev sSource : Stmt := top 32
abbrev sDraw : Stmt := top 33
abbrev sPick : Stmt := top 34
abbrev sMixed : Stmt := top 35
abbrev sSame : Stmt := top 36
abbrev sLoose : Stmt := top 37
abbrev sFewNames : Stmt := top 38
abbrev sNames : Stmt := top 39
abbrev sWMade : Stmt := top 40
abbrev sInTurns : Stmt := top 41
abbrev sWFault : Stmt := top 42
abbrev sAllLists : Stmt := top 43
abbrev sMet : Stmt := top 44
abbrev sRightLs : Stmt := top 45
abbrev sWPower : Stmt := top 46
abbrev sSmallR : Stmt := top 47
abbrev sGreatR : Stmt := top 48
abbrev sAsked : Stmt := top 49
abbrev sRefused : Stmt := top 50
abbrev sLaw : Stmt := top 51
/-! ### the built-ins and constants of the top -/
structure B0 (K : PySem.W.Frag) (mg : Str → Option Value) : Prop where
  isi : mg "isinstance" = none
  list : mg "list" = none
  tuple : mg "tuple" = none
  str : mg "str" = none
  len : mg "len" = none
  all : mg "all" = none
  any : mg "any" = none
  enum : mg "enumerate" = none
  int : mg "int" = none
  range : mg "range" = none
  dict : mg "dict" = none
  bool : mg "bool" = none
  zip : mg "zip" = none
  first : ∃ t, mg "FIRST_SIGNS" = some (.str "abcdefghijklmnopqrstuvwxyz" t)
  later : ∃ t, mg "LATER_SIGNS" = some (.str "abcdefghijklmnopqrstuvwxyz0123456789" t)
  longest : ∃ t, mg "LONGEST_NAME" = some (.int 8 t)
/-! ### things of all kinds -/
inductive Kd | non | int | bool | str | list | tup | dict | fn
def Kd.nm : Kd → String
  | .non => "NoneType" | .int => "int" | .bool => "bool" | .str => "str" | .list => "list" | .tup => "tuple" | .dict => "dict" | .fn => "function"
def Kd.isSeq : Kd → Bool
  | .list => true | .tup => true | _ => false
def Kd.isStr : Kd → Bool
  | .str => true | _ => false
def Kd.isList : Kd → Bool
  | .list => true | _ => false
def Kd.isTup : Kd → Bool
  | .tup => true | _ => false
def Kd.isDict : Kd → Bool
  | .dict => true | _ => false
def Kd.isBool : Kd → Bool
  | .bool => true | _ => false
inductive Th (K : PySem.W.Frag) (H : Hp) : V → Kd → Prop where
  | non : Th K H .non .non
  | int (i : Int) : Th K H (.int i) .int
  | bl (b : Bool) : Th K H (.bl b) .bool
  | str {z : Str} (h : z.length ≤ 1000) : Th K H (.str z) .str
  | lst {a : Addr} {xs : List V} (e : H a = some (.lst xs)) : Th K H (.ref a) .list
  | tup {a : Addr} {xs : List V} (e : H a = some (.tup xs)) : Th K H (.ref a) .tup
  | dict {a : Addr} {kvs : List (Key × V)} (e : H a = some (.dK kvs)) : Th K H (.ref a) .dict
  | fn {a : Addr} {o : Obj} (e : K.lookup a = some o) (c : o.cls = .type "function") : Th K H (.ref a) .fn
theorem Th.ty {K : PySem.W.Frag} {H : Hp} {v : V} {k : Kd} (h : Th K H v k) : TyZ K H v (.type k.nm) := by
  cases h with
  | non => exact .x (.base .non)
  | int i => exact .x (.base (.int i))
  | bl b => exact .x (.base (.bl b))
  | str h => exact .x (.base (.str _))
  | lst e => exact .x (.base (.lst e))
  | tup e => exact .x (.base (.tup e))
  | dict e => exact .x (.base (.dK e))
  | fn e c => exact .fn e c
theorem Th.same {K : PySem.W.Frag} {H H' : Hp} {v : V} {k : Kd} (h : Th K H v k) (s : Same H H') : Th K H' v k := by
  cases h with
  | non => exact .non
  | int i => exact .int i
  | bl b => exact .bl b
  | str h => exact .str h
  | lst e => exact .lst (s _ _ e)
  | tup e => exact .tup (s _ _ e)
  | dict e => exact .dict (s _ _ e)
  | fn e c => exact .fn e c
theorem kit_seq {K : PySem.W.Frag} (k : Kd) : PySem.W.kitAny K (.type k.nm) [.type "list", .type "tuple"] = some k.isSeq := by
  cases k <;> first
    | exact kitAny_cons (b := true) (kit_ty (by decide +kernel)) (fun z => nomatch z) (fun _ => rfl)
    | exact kitAny_cons (b := false) (kit_ty (by decide +kernel)) (fun _ => kitAny_cons (b := true) (kit_ty (by decide +kernel)) (fun z => nomatch z) (fun _ => rfl)) (fun z => nomatch z)
    | exact kitAny_cons (b := false) (kit_ty (by decide +kernel)) (fun _ => kitAny_cons (b := false) (kit_ty (by decide +kernel)) (fun _ => kitAny_nil) (fun z => nomatch z)) (fun z => nomatch z)
theorem kit_str {K : PySem.W.Frag} (k : Kd) : PySem.W.kitOne K (.type k.nm) (.type "str") = some k.isStr := by cases k <;> exact kit_ty (by decide +kernel)
theorem kit_list {K : PySem.W.Frag} (k : Kd) : PySem.W.kitOne K (.type k.nm) (.type "list") = some k.isList := by cases k <;> exact kit_ty (by decide +kernel)
theorem kit_tup {K : PySem.W.Frag} (k : Kd) : PySem.W.kitOne K (.type k.nm) (.type "tuple") = some k.isTup := by cases k <;> exact kit_ty (by decide +kernel)
theorem kit_dict {K : PySem.W.Frag} (k : Kd) : PySem.W.kitOne K (.type k.nm) (.type "dict") = some k.isDict := by cases k <;> exact kit_ty (by decide +kernel)
theorem kit_bool {K : PySem.W.Frag} (k : Kd) : PySem.W.kitOne K (.type k.nm) (.type "bool") = some k.isBool := by cases k <;> exact kit_ty (by decide +kernel)
theorem same_upd {H : Hp} {p : Addr} {o : HO} (h : H p = none) : Same H (upd H p o) := fun b u e => by rw [upd_ne (ne_of_none e h)]; exact e
/-! ### is_list -/
def spIsList (K : PySem.W.Frag) : Sp := fun vs H Q _ => ∃ v k, vs = [v] ∧ Th K H v k ∧ ∀ H', Same H H' → Q (.bl k.isSeq) H'
section
variable {P : Program} {w : World} {K : PySem.W.Frag} {mg : Str → Option Value} {base : Heap}
theorem scIsList : FnScope ["thing"] ["thing"] (defScope sIsList) := ⟨rfl, rfl, rfl, by decide +kernel, rfl, by decide +kernel, by decide +kernel⟩
theorem ok_isList {f : Addr} {fd : FuncData} (F : Fun K "is_list" "is_list" sIsList f fd) (B : B0 K mg) : FnOk P w K mg base CX0 1 f fd ["thing"] (spIsList K) := by
  refine F.ok scIsList (fun vs H Q E h => ?_) (fun cdv A outer s H vs Q E hr h => ?_)
  · obtain ⟨v, k, rfl, _⟩ := h
    rfl
  · obtain ⟨v, k, rfl, ht, q⟩ := h
    refine ⟨_, pss_one (ps_ret (pe_callB call_isiTZ (by rfl) B.isi (by decide +kernel) (pa_cons (pv 0) (pa_cons (pe_tup (pa_cons (pe_bltn (v := .ty "list") (by rfl) B.list (by decide +kernel) rfl) (pa_cons (pe_bltn (v := .ty "tuple") (by rfl) B.tuple (by decide +kernel) rfl) pa_nil))) pa_nil)))), ?_⟩
    refine ⟨_, rfl, (by show 2 ≤ sizeLine; decide), fun p hp => ?_⟩
    exact ⟨v, p, [.ty "list", .ty "tuple"], _, [.type "list", .type "tuple"], k.isSeq, rfl, upd_same, .cons (.ty _) (.cons (.ty _) .nil), (ht.same (same_upd hp)).ty, kit_seq k, q _ (same_upd hp)⟩
end
end RK

namespace RK
open PySem L2
/-! ### is_name -/
def firstC : List Nat := ("abcdefghijklmnopqrstuvwxyz" : Str).cps.toList
def laterC : List Nat := ("abcdefghijklmnopqrstuvwxyz0123456789" : Str).cps.toList
def nameB (z : Str) : Bool := decide (1 ≤ z.length) && decide (z.length ≤ 8) && (match z.cps.toList with | c :: _ => decide (c ∈ firstC) | [] => false) && z.cps.toList.all fun c => decide (c ∈ laterC)
def nameV : V → Bool
  | .str z => nameB z
  | _ => false
def spIsName (K : PySem.W.Frag) : Sp := fun vs H Q _ => ∃ v k, vs = [v] ∧ Th K H v k ∧ ∀ H', Same H H' → Q (.bl (nameV v)) H'
theorem Th.str_of {K : PySem.W.Frag} {H : Hp} {v : V} {k : Kd} (h : Th K H v k) (e : k.isStr = true) : ∃ z, v = .str z ∧ z.length ≤ 1000 := by
  cases h <;> first | exact ⟨_, rfl, by assumption⟩ | cases e
theorem Th.not_name {K : PySem.W.Frag} {H : Hp} {v : V} {k : Kd} (h : Th K H v k) (e : k.isStr = false) : nameV v = false := by
  cases h <;> first | rfl | cases e
theorem tyes {σ : St} {H : Hp} {A B : Hp → Prop} (h : A H) : tYes σ H fun b H' => if b = true then A H' else B H' := by
  show if true = true then A H else B H
  rw [if_pos rfl]
  exact h
theorem take_more {α : Type} {l : List α} {i : Nat} {x : α} (h : l[i]? = some x) : l.take (i + 1) = l.take i ++ [x] := by
  rw [List.take_add_one, h]
  rfl
theorem le8 {z : Str} (h : z.length ≤ 8) : z.length ≤ sizeLine := Nat.le_trans h (by decide)
section
variable {P : Program} {w : World} {K : PySem.W.Frag} {mg : Str → Option Value} {base : Heap}
theorem scIsName : FnScope ["thing", "sign"] ["thing"] (defScope sIsName) := ⟨rfl, rfl, rfl, by decide +kernel, rfl, by decide +kernel, by decide +kernel⟩
theorem ok_isName {f : Addr} {fd : FuncData} (F : Fun K "is_name" "is_name" sIsName f fd) (B : B0 K mg) : FnOk P w K mg base CX0 1 f fd ["thing"] (spIsName K) := by
  obtain ⟨t1, g1⟩ := B.first
  obtain ⟨t2, g2⟩ := B.later
  obtain ⟨t3, g3⟩ := B.longest
  refine F.ok scIsName (fun vs H Q E h => ?_) (fun cdv A outer s H vs Q E hr h => ?_)
  · obtain ⟨v, k, rfl, _⟩ := h
    rfl
  · obtain ⟨v, k, rfl, ht, q⟩ := h
    refine ⟨_, pss_cons (ps_if (PW.pt (pw_or (pt_not (pt_val (pe_callB call_isiZ (by rfl) B.isi (by decide +kernel) (pa_cons (pv 0) (pa_cons (pe_bltn (v := .ty "str") (by rfl) B.str (by decide +kernel) rfl) pa_nil)))))
          (pw_or1 (pt_not (pt_chain op_le op_le pe_int (pe_callB call_len_str (by rfl) B.len PySem.boot_len (pa_cons (pv 0) pa_nil)) (pe_glob (v := .int 8) (by rfl) g3 ⟨_, rfl⟩)))))) (pss_one (ps_ret pe_bl)) pss_nil)
      (pss_one (ps_ret (pe_and (pe_cmpR op_in_sign (pe_ix ix_str (pv 0) pe_int (fun _ _ => rfl)) (pe_glob (v := .str "abcdefghijklmnopqrstuvwxyz") (by rfl) g1 ⟨_, rfl⟩) rfl)
        (pe_one (pe_callB (cr_all rfl) (by rfl) B.all (by decide +kernel) (pa_cons (pe_lc (own := [("sign", 1)]) (g := gName 1) (tt := tYes) rfl scIsName.nd (pi_str (pv 0)) (blkOk_by (N := ["thing", "sign"]) (sc := defScope sIsName) (by decide +kernel))
          (fun _ _ _ _ _ => pg_name (i := 1) scIsName.nd rfl (Or.inl rfl)) (fun _ _ _ _ _ => pts_nil) (fun _ _ _ _ _ => pe_cmpR op_in_sign (pv 1) (pe_glob (v := .str "abcdefghijklmnopqrstuvwxyz0123456789") (by rfl) g2 ⟨_, rfl⟩) rfl)) pa_nil)))))), ?_⟩
    -- not isinstance(thing, str)
    refine ⟨_, rfl, v, .ty "str", _, .type "str", k.isStr, rfl, .ty _, ht.ty, kit_str k, k.isStr, rfl, ?_⟩
    cases hk : k.isStr with
    | false =>
      refine iteT ?_
      have e := ht.not_name hk
      have q' := q H (Same.refl H)
      rw [e] at q'
      exact iteT q'
    | true =>
      obtain ⟨z, rfl, hz⟩ := ht.str_of hk
      refine iteF ?_
      have hzs : z.length ≤ sizeLine := Nat.le_trans hz (by decide)
      -- not 1 <= len(thing) <= LONGEST_NAME
      refine ⟨_, rfl, z, rfl, hzs, 1, z.length, rfl, rfl, _, rfl, ?_⟩
      refine ite2 (fun h1 => ?_) (fun h1 => ?_)
      · have h1' : 1 ≤ z.length := by have := of_decide_eq_true h1; omega
        refine ⟨_, _, rfl, rfl, _, rfl, ?_⟩
        by_cases h2 : z.length ≤ 8
        · -- a text of one to eight signs
          have e2 : decide (((z.length : Nat) : Int) ≤ 8) = true := decide_eq_true (by omega)
          rw [e2]
          refine iteF ?_
          obtain ⟨c, r, hc⟩ : ∃ c r, z.cps.toList = c :: r := by
            cases hc : z.cps.toList with
            | nil =>
              have : z.length = 0 := by
                show z.cps.size = 0
                rw [← Array.length_toList, hc]; rfl
              omega
            | cons c r => exact ⟨c, r, rfl⟩
          have hname : nameB z = (decide (c ∈ firstC) && z.cps.toList.all fun c => decide (c ∈ laterC)) := by
            unfold nameB
            rw [decide_eq_true h1', decide_eq_true h2, hc]
            rfl
          refine ⟨_, rfl, z, 0, c, rfl, rfl, hzs, ?_, c, _, rfl, rfl, _, rfl, ?_⟩
          · exact atI_nat (j := 0) (by rw [hc]; rfl)
          · refine ite2 (fun hf => ?_) (fun hf => ?_)
            · refine ⟨_, rfl, z, rfl, fun D hD => lc_it walk_str (fun i H' => Same H H' ∧ H' D = some (.lst ((z.cps.toList.take i).map fun c => V.bl (decide (c ∈ laterC))))) ⟨same_upd hD, upd_same⟩ (fun _ _ _ _ => True.intro) ?_ ?_⟩
              · rintro i x H1 H2 hi ⟨sm, hl⟩ ⟨rfl, d, hd, rfl⟩
                have hd' : z.cps.toList[i]? = some d := by rw [Array.getElem?_toList]; exact hd
                refine ⟨rfl, tyes ?_⟩
                refine ⟨_, rfl, d, _, rfl, rfl, _, hl, ?_, ?_, ?_⟩
                · rw [List.length_map, List.length_take]
                  exact Nat.lt_of_le_of_lt (Nat.min_le_right _ _) (Nat.lt_of_le_of_lt (show z.cps.toList.length ≤ 1000 by rw [Array.length_toList]; exact hz) (by decide))
                · exact fun b o e => by rw [upd_ne (ne_of_none e hD)]; exact sm b o e
                · rw [upd_same, take_more hd', List.map_append]
                  rfl
              · rintro H1 ⟨sm, hl⟩
                rw [show z.cps.size = z.cps.toList.length by rw [Array.length_toList], List.take_length] at hl
                refine ⟨D, z.cps.toList.map fun c => decide (c ∈ laterC), rfl, SqL.of (by rw [hl, List.map_map]; rfl), ?_⟩
                have q' := q H1 sm
                have e : nameV (.str z) = (z.cps.toList.map fun c => decide (c ∈ laterC)).all id := by
                  show nameB z = _
                  have hf' : decide (c ∈ firstC) = true := hf
                  rw [hname, hf', Bool.true_and, List.all_map]
                  rfl
                rw [e] at q'
                exact q'
            · have q' := q H (Same.refl H)
              have e : nameV (.str z) = false := by
                show nameB z = _
                rw [hname, show decide (c ∈ firstC) = false from decide_eq_false fun z => hf (decide_eq_true z), Bool.false_and]
              rw [e] at q'
              exact q'
        · have e2 : decide (((z.length : Nat) : Int) ≤ 8) = false := decide_eq_false (by omega)
          rw [e2]
          refine iteT ?_
          have q' := q H (Same.refl H)
          have e : nameV (.str z) = false := by
            show nameB z = false
            unfold nameB
            rw [decide_eq_false h2, Bool.and_false]
            rfl
          rw [e] at q'
          exact q'
      · refine ⟨_, rfl, iteT ?_⟩
        have q' := q H (Same.refl H)
        have e : nameV (.str z) = false := by
          show nameB z = false
          unfold nameB
          rw [decide_eq_false (by intro h; exact h1 (decide_eq_true (by omega)))]
          rfl
        rw [e] at q'
        exact q'
end
end RK

namespace RK
open PySem L2
/-! ### the class Path -/
structure PT0 (P : Program) (K : PySem.W.Frag) (mg : Str → Option Value) (C CB fB : Addr) : Prop where
  cl : Cls K C
  nN : NoAttr K C "_names"
  mgC : mg "Path" = some (.ref C)
  gB : mg "BadWalkers" = some (.ref CB)
  bad : PySem.XW.XTxt P K mg "index" CB fB
def fNames (t : Addr) : List (Str × V) := putF "_names" (.ref t) []
theorem fNames_get (t : Addr) : (fNames t).lookup ("_names" : Str) = some (.ref t) := by
  unfold fNames
  rw [lookup_putF, if_pos rfl]
theorem fNames_no (t : Addr) {m : Str} (h : ¬ m = "_names") : (fNames t).lookup m = none := by
  unfold fNames
  rw [lookup_putF, if_neg h]
  rfl
/-- an instance at p, its tuple at t holds the names zs -/
structure PathAt (C : Addr) (H : Hp) (p t : Addr) (zs : List Str) : Prop where
  ob : ∃ dx, H p = some (.ins C dx (fNames t))
  tu : H t = some (.tup (zs.map V.str))
theorem PathAt.same {C : Addr} {H H' : Hp} {p t : Addr} {zs : List Str} (h : PathAt C H p t zs) (s : Same H H') : PathAt C H' p t zs :=
  ⟨let ⟨dx, e⟩ := h.ob; ⟨dx, s _ _ e⟩, s _ _ h.tu⟩
/-- what is wrong with a list of walkers: seen ones, those to come -/
def scan : List V → List V → Option Nat
  | seen, [] => if seen.length < 2 then some seen.length else none
  | seen, x :: r => if (nameV x && !decide (x ∈ seen)) = true then scan (seen ++ [x]) r else some seen.length
def wrongIx (xs : List V) : Option Nat := scan [] xs
theorem scan_good {seen r : List V} {x : V} (h1 : nameV x = true) (h2 : x ∉ seen) : scan seen (x :: r) = scan (seen ++ [x]) r := by
  show (if _ then _ else _) = _
  rw [h1, decide_eq_false h2]
  rfl
theorem scan_bad1 {seen r : List V} {x : V} (h1 : nameV x = false) : scan seen (x :: r) = some seen.length := by
  show (if _ then _ else _) = _
  rw [h1]
  rfl
theorem scan_bad2 {seen r : List V} {x : V} (h2 : x ∈ seen) : scan seen (x :: r) = some seen.length := by
  show (if _ then _ else _) = _
  rw [decide_eq_true h2, Bool.not_true, Bool.and_false]
  rfl
theorem drop_at {α : Type} {l : List α} {i : Nat} {x : α} (h : l[i]? = some x) : l.drop i = x :: l.drop (i + 1) := by
  obtain ⟨h1, h2⟩ := List.getElem?_eq_some_iff.mp h
  rw [List.drop_eq_getElem_cons h1, h2]
theorem seqL_keep {K : PySem.W.Frag} {H H' : Hp} {a d : Addr} {xs : List V} (q : SqL K H a xs) (h : a ≠ d) (sm : ∀ b o, b ≠ d → H b = some o → H' b = some o) : SqL K H' a xs := by
  rcases q with (q | ⟨o, q⟩) | q
  · exact .inl (.inl (sm _ _ h q))
  · exact .inl (.inr ⟨o, sm _ _ h q⟩)
  · exact .inr q
theorem seqT_keep {K : PySem.W.Frag} {H H' : Hp} {a d : Addr} {xs : List V} (q : SqT K H a xs) (h : a ≠ d) (sm : ∀ b o, b ≠ d → H b = some o → H' b = some o) : SqT K H' a xs := by
  rcases q with (q | ⟨o, q⟩) | q
  · exact .inl (.inl (sm _ _ h q))
  · exact .inl (.inr ⟨o, sm _ _ h q⟩)
  · exact .inr q
/-- a list or a tuple -/
def SeqAt2 (H : Hp) (a : Addr) (xs : List V) (k : Kd) : Prop := (H a = some (.lst xs) ∧ k = .list) ∨ (H a = some (.tup xs) ∧ k = .tup)
theorem SeqAt2.same {H H' : Hp} {a : Addr} {xs : List V} {k : Kd} (h : SeqAt2 H a xs k) (s : Same H H') : SeqAt2 H' a xs k := h.elim (fun e => .inl ⟨s _ _ e.1, e.2⟩) fun e => .inr ⟨s _ _ e.1, e.2⟩
theorem SeqAt2.th {K : PySem.W.Frag} {H : Hp} {a : Addr} {xs : List V} {k : Kd} (h : SeqAt2 H a xs k) : Th K H (.ref a) k ∧ k.isSeq = true := by
  rcases h with ⟨e, rfl⟩ | ⟨e, rfl⟩
  · exact ⟨.lst e, rfl⟩
  · exact ⟨.tup e, rfl⟩
/-- what Path(v) does: v a list or a tuple of things xs (wrongIx tells), or a thing that is none -/
def spInit (K : PySem.W.Frag) (C CB : Addr) : Sp := fun vs H Q E => ∃ (p dx : Addr) (v : V) (k : Kd), vs = [.ref p, v] ∧ H p = some (.ins C dx []) ∧ Th K H v k ∧
  (k.isSeq = false → ∀ d H', Same H H' → H' d = some (.xd [("index", .int 0)]) → E (.ref CB) (some d) H') ∧
  (k.isSeq = true → ∃ a xs, v = .ref a ∧ SeqAt2 H a xs k ∧ xs.length ≤ 1000 ∧ (∀ x ∈ xs, ∃ kx, Th K H x kx) ∧
    (∀ i, wrongIx xs = some i → ∀ d H', Same H H' → H' d = some (.xd [("index", .int i)]) → E (.ref CB) (some d) H') ∧
    (wrongIx xs = none → ∀ zs t H', xs = zs.map V.str → PathAt C H' p t zs → (∀ b o, H b = some o → b ≠ p → H' b = some o) → Q .non H'))
theorem val_names : ∀ {zs : List Str} {z : Str}, (valV (zs.map fun z => ((Sum.inr z : Key), V.bl true)) (Sum.inr z : Key)).isSome = decide (V.str z ∈ zs.map V.str)
  | [], z => rfl
  | y :: r, z => by
    rw [List.map_cons, List.map_cons]
    by_cases e : y = z
    · subst e
      rw [valV_pos rfl]
      simp
    · rw [valV_neg (fun q => e (Sum.inr.inj q)), val_names (zs := r)]
      have e' : ¬ z = y := fun q => e q.symm
      simp [e']
section
variable {P : Program} {w : World} {K : PySem.W.Frag} {mg : Str → Option Value} {base : Heap} {C CB fB : Addr}
theorem scInit : FnScope ["self", "walkers", "met", "index", "name"] ["self", "walkers"] (defScope sInit) := ⟨rfl, rfl, rfl, by decide +kernel, rfl, by decide +kernel, by decide +kernel⟩
theorem ok_init {f fL fN : Addr} {fd fdL fdN : FuncData} (F : Fun K "__init__" "Path.__init__" sInit f fd) (B : B0 K mg) (T : PT0 P K mg C CB fB)
    (FL : Fun K "is_list" "is_list" sIsList fL fdL) (bL : Binds K fdL ["thing"] []) (gL : mg "is_list" = some (.ref fL)) (FN : Fun K "is_name" "is_name" sIsName fN fdN) (bN : Binds K fdN ["thing"] []) (gN : mg "is_name" = some (.ref fN)) :
    FnOk P w K mg base (L2.CX P w) 2 f fd ["self", "walkers"] (spInit K C CB) := by
  have GL : FnOk P w K mg base CX0 1 fL fdL ["thing"] (spIsList K) := ok_isList FL B
  have GN : FnOk P w K mg base CX0 1 fN fdN ["thing"] (spIsName K) := ok_isName FN B
  refine F.okX scInit (fun vs H Q E h => ?_) (fun cdv A outer s H vs Q E hr h => ?_)
  · obtain ⟨p, dx, v, k, rfl, _⟩ := h
    rfl
  · obtain ⟨p, dx, v, k, rfl, hp, ht, k1, k2⟩ := h
    have hu := hu_of hr
    refine ⟨_, pss_cons (ps_if (pt_not (pt_val (pe_call GL hr (by rfl) gL FL.kp bL .nil pass0 (pa_cons (pv 1) pa_nil)))) (pss_one (ps_raiseX rfl T.bad T.gB hr (takes_of rfl rfl rfl rfl) (by exact (pa_cons pe_int pa_nil)))) pss_nil)
      (pss_cons (ps_set (i := 2) scInit.nd rfl (Or.inl rfl) pe_dnewK)
      (pss_cons (ps_for PassesOwn.leaving rfl (pi_enumA (by rfl) B.enum (pa_cons (pv 1) pa_nil)) (pg_tup rfl (pgs_cons (pg_name (i := 3) scInit.nd rfl (Or.inl rfl)) (pgs_cons (pg_name (i := 4) scInit.nd rfl (Or.inl rfl)) pgs_nil)))
        (pss_cons (ps_if (PW.pt (pw_or (pt_not (pt_val (pe_call GN hr (by rfl) gN FN.kp bN .nil pass0 (pa_cons (pv 4) pa_nil)))) (pw_or1 (pt_cmp (pc_din hu (pv 4) (pv 2)))))) (pss_one (ps_raiseX rfl T.bad T.gB hr (takes_of rfl rfl rfl rfl) (by exact (pa_cons (pv 3) pa_nil)))) pss_nil)
          (pss_one (ps_dput hu (pv 2) (pv 4) pe_bl rfl))))
      (pss_cons (ps_if (pt_cmpR op_lt (pe_callB call_lenD (by rfl) B.len PySem.boot_len (pa_cons (pv 2) pa_nil)) pe_int (nomark _)) (pss_one (ps_raiseX rfl T.bad T.gB hr (takes_of rfl rfl rfl rfl) (by exact (pa_cons (pe_callB call_lenD (by rfl) B.len PySem.boot_len (pa_cons (pv 2) pa_nil)) pa_nil)))) pss_nil)
      (pss_one (ps_fld (pv 0) (pe_callTy (call_tuple_dK rfl) (by rfl) B.tuple (by decide +kernel) (pa_cons (pv 2) pa_nil)) rfl))))), ?_⟩
    -- if not is_list(walkers): raise BadWalkers(0)
    refine ⟨_, rfl, v, k, rfl, ht, fun H1 s1 => ⟨k.isSeq, rfl, ?_⟩⟩
    cases hk : k.isSeq with
    | false =>
      refine iteT ?_
      exact ⟨_, rfl, fun d hd => k1 hk d _ (s1.trans (same_upd hd)) upd_same⟩
    | true =>
      refine iteF ?_
      obtain ⟨a, xs, rfl, hsq, hlen, hth, kbad, kgood⟩ := k2 hk
      -- met = {}
      intro d hd
      have s2 : Same H (upd H1 d (.dK [])) := s1.trans (same_upd hd)
      have npd : p ≠ d := ne_of_none (s1 _ _ hp) hd
      -- for index, name in enumerate(walkers)
      have hnd : ∀ {b : Addr} {o : HO}, H b = some o → b ≠ d := fun e => ne_of_none (s1 _ _ e) hd
      have hq0 : SqL K (upd H1 d (.dK [])) a xs ∨ SqT K (upd H1 d (.dK [])) a xs := hsq.elim (fun e => .inl (SqL.of (s2 _ _ e.1))) fun e => .inr (SqT.of (s2 _ _ e.1))
      have had : a ≠ d := hsq.elim (fun e => hnd e.1) fun e => hnd e.1
      refine ⟨_, rfl, a, xs, rfl, for_enumA hq0 (fun i σ H' => ∃ (w3 w4 : Option V) (zs : List Str), σ = [some (.ref p), some (.ref a), some (.ref d), w3, w4] ∧ xs.take i = zs.map V.str ∧ wrongIx xs = scan (xs.take i) (xs.drop i) ∧
            H' d = some (.dK (zs.map fun z => ((Sum.inr z : Key), V.bl true))) ∧ ∀ b o, b ≠ d → (upd H1 d (.dK [])) b = some o → H' b = some o) ⟨none, none, [], rfl, rfl, rfl, upd_same, fun b o _ e => e⟩ (fun q i σ' H' ⟨_, _, zs, _, _, _, _, sm⟩ => ?_) (fun q i σ' H' ⟨_, _, zs, _, _, _, _, sm⟩ => ?_) ?_ ?_⟩
      · exact seqL_keep q had sm
      · exact seqT_keep q had sm
      · rintro i y T σ H' hy ⟨w3, w4, zs, rfl, htk, hsc, hdk, sm⟩ hT
        have hym : y ∈ xs := List.mem_of_getElem? hy
        obtain ⟨ky, hky⟩ := hth y hym
        have sm' : Same H H' := fun b o e => sm b o (hnd e) (s2 b o e)
        have smT : Same H' (upd H' T (.tup [.int (i : Nat), y])) := same_upd hT
        have hdT : (upd H' T (.tup [.int (i : Nat), y])) d = some (.dK (zs.map fun z => ((Sum.inr z : Key), V.bl true))) := smT _ _ hdk
        have hlen_i : (xs.take i).length = i := by
          rw [List.length_take]
          have := (List.getElem?_eq_some_iff.mp hy).1
          omega
        refine ⟨T, _, rfl, SqT.of upd_same, rfl, _, _, rfl, _, _, rfl, rfl, ?_⟩
        -- if not is_name(name) or name in met: raise BadWalkers(index)
        refine ⟨_, rfl, y, ky, rfl, (hky.same sm').same smT, fun H2 sm2 => ⟨nameV y, rfl, ?_⟩⟩
        have hall : Same H H2 := fun b o e => sm2 b o (smT b o (sm' b o e))
        cases hn : nameV y with
        | false =>
          have hw : wrongIx xs = some i := by rw [hsc, drop_at hy, scan_bad1 hn, hlen_i]
          refine iteT (iteT ?_)
          exact ⟨_, rfl, _, rfl, fun d2 hd2 => kbad i hw d2 _ (hall.trans (same_upd hd2)) upd_same⟩
        | true =>
          refine iteF ?_
          obtain ⟨z, rfl⟩ : ∃ z, y = .str z := by
            cases y <;> first | exact ⟨_, rfl⟩ | cases hn
          refine ⟨_, rfl, _, rfl, d, _, rfl, DGet.k (k := Sum.inr z) (sm2 _ _ hdT), _, rfl, ?_⟩
          rw [val_names]
          refine ite2 (fun hin => ?_) (fun hin => ?_)
          · have hin' : V.str z ∈ zs.map V.str := of_decide_eq_true hin
            have hw : wrongIx xs = some i := by rw [hsc, drop_at hy, scan_bad2 (by rw [htk]; exact hin'), hlen_i]
            exact ⟨_, rfl, _, rfl, fun d2 hd2 => kbad i hw d2 _ (hall.trans (same_upd hd2)) upd_same⟩
          · have hin' : V.str z ∉ zs.map V.str := fun q => hin (decide_eq_true q)
            have hnone : valV (zs.map fun z => ((Sum.inr z : Key), V.bl true)) (Sum.inr z : Key) = none := by
              have q := val_names (zs := zs) (z := z)
              rw [decide_eq_false hin'] at q
              simpa using q
            have hzl : zs.length = i := by
              have := congrArg List.length htk
              rw [hlen_i, List.length_map] at this
              exact this.symm
            have hi1 : i < xs.length := (List.getElem?_eq_some_iff.mp hy).1
            refine ⟨_, rfl, _, rfl, d, _, rfl, DPut.k (k := Sum.inr z) (sm2 _ _ hdT) (small1000 (by rw [List.length_map, hzl]; omega)), ?_⟩
            refine ⟨_, _, zs ++ [z], rfl, ?_, ?_, ?_, fun b o hb e => ?_⟩
            · rw [take_more hy, htk, List.map_append]; rfl
            · rw [hsc, drop_at hy, scan_good hn (by rw [htk]; exact hin'), take_more hy]
            · rw [upd_same, putK_new _ hnone, List.map_append]; rfl
            · rw [upd_ne hb]
              exact sm2 _ _ (smT _ _ (sm b o hb e))
      · rintro σ H' ⟨w3, w4, zs, rfl, htk, hsc, hdk, sm⟩
        rw [List.take_length] at htk hsc
        rw [List.drop_length] at hsc
        have sm' : Same H H' := fun b o e => sm b o (hnd e) (s2 b o e)
        have hl : zs.length = xs.length := by rw [htk, List.length_map]
        -- if len(met) < 2: raise BadWalkers(len(met))
        refine ⟨_, rfl, d, _, rfl, hdk, _, _, rfl, rfl, _, rfl, ?_⟩
        rw [List.length_map]
        refine ite2 (fun h2 => ?_) (fun h2 => ?_)
        · have h2' : xs.length < 2 := by have := of_decide_eq_true h2; omega
          have hw : wrongIx xs = some xs.length := by
            rw [hsc]
            show (if _ then _ else _) = _
            rw [if_pos h2']
          refine ⟨_, rfl, d, _, rfl, hdk, _, rfl, fun d2 hd2 => kbad _ hw d2 _ (sm'.trans (same_upd hd2)) ?_⟩
          rw [upd_same, List.length_map, hl]
        · have h2' : ¬ xs.length < 2 := fun q => h2 (decide_eq_true (by omega))
          have hw : wrongIx xs = none := by
            rw [hsc]
            show (if _ then _ else _) = _
            rw [if_neg h2']
          -- self._names = tuple(met)
          refine ⟨_, rfl, d, _, rfl, hdk, fun t ht' => ?_⟩
          have hpt : p ≠ t := ne_of_none (sm' _ _ hp) ht'
          refine ⟨_, rfl, p, C, dx, _, rfl, by rw [upd_ne hpt]; exact sm' _ _ hp, T.cl, T.nN, (by show 0 < 1000; decide), ?_⟩
          refine kgood hw zs t _ htk ⟨⟨dx, upd_same⟩, ?_⟩ fun b o e hb => ?_
          · rw [upd_ne (Ne.symm hpt), upd_same, List.map_map]; rfl
          · rw [upd_ne hb, upd_ne (ne_of_none (sm' b o e) ht')]
            exact sm' b o e
end
end RK

namespace RK
open PySem L2
/-- what isinstance and == ask of the class -/
structure PT1 (K : PySem.W.Frag) (C fE : Addr) : Prop where
  cls1 : PySem.W.findIn K (.ref C) "__class__" = some (some (.builtin "object.__class__"))
  spec : PySem.W.specialIn K (.builtin "object.__class__") "__get__" = some (some (.builtin "getset_descriptor.__get__"))
  tak : PySem.W.takesIn K (.builtin "object.__class__") = some true
  mo : PySem.W.mroIn K C (.type "object") = some true
  isC : ((PySem.W.clsIn K C).isSome && PySem.W.typeIn K (.ref C) == some (.type "type")) = true
  eqF : PySem.W.findIn K (.ref C) "__eq__" = some (some (.ref fE))
  eqI : PySem.W.isFn K (.ref fE) = true
  neF : PySem.W.findIn K (.ref C) "__ne__" = some (some (.builtin "object.__ne__"))
theorem sub_no {K : PySem.W.Frag} {C : Addr} (k : Kd) : PySem.W.subIn K (.type k.nm) (.ref C) = some false := by
  cases k <;> rfl
theorem kit_no {K : PySem.W.Frag} {C fE : Addr} (T : PT1 K C fE) (k : Kd) : PySem.W.kitOne K (.type k.nm) (.ref C) = some false := by
  show (if (Value.type k.nm == Value.ref C) = true then some true else PySem.W.kitCls K (.type k.nm) (.ref C)) = some false
  rw [if_neg (by intro h; cases h)]
  show (if _ then _ else _) = some false
  rw [if_pos T.isC]
  exact sub_no k
theorem kit_yes {K : PySem.W.Frag} {C : Addr} : PySem.W.kitOne K (.ref C) (.ref C) = some true := by
  show (if (Value.ref C == Value.ref C) = true then some true else _) = some true
  rw [if_pos (by simp)]
theorem notFirst_k {K : PySem.W.Frag} {C : Addr} (k : Kd) : PySem.W.notFirst K C (.type k.nm) = true := by
  unfold PySem.W.notFirst
  rw [sub_no k]
  simp
theorem PathAt.ty {P : Program} {K : PySem.W.Frag} {mg : Str → Option Value} {C CB fB fE : Addr} {H : Hp} {p t : Addr} {zs : List Str} (T : PT0 P K mg C CB fB) (T1 : PT1 K C fE) (h : PathAt C H p t zs) : TyZ K H (.ref p) (.ref C) := by
  obtain ⟨dx, e⟩ := h.ob
  exact .x (.base (.ins e T.cl T1.cls1 T1.spec T1.tak T1.mo))
/-! ### names -/
def Nm (zs : List Str) : Prop := ∀ z ∈ zs, nameB z = true
theorem laterC_small : ∀ c ∈ laterC, c < 0x110000 := by decide +kernel
theorem name_all {z : Str} (h : nameB z = true) : (z.cps.toList.all fun c => decide (c ∈ laterC)) = true := by
  unfold nameB at h
  exact (Bool.and_eq_true_iff.mp h).2
theorem name_short {z : Str} (h : nameB z = true) : z.length ≤ 8 := by
  unfold nameB at h
  have h1 := (Bool.and_eq_true_iff.mp (Bool.and_eq_true_iff.mp (Bool.and_eq_true_iff.mp h).1).1).2
  exact of_decide_eq_true h1
theorem name_ok {z : Str} (h : nameB z = true) : PyData.strOk z = true := by
  have q := List.all_eq_true.mp (name_all h)
  unfold PyData.strOk
  rw [← Array.all_toList, List.all_eq_true]
  intro c hc
  exact decide_eq_true (laterC_small c (of_decide_eq_true (q c hc)))
theorem shaped_strs {zs : List Str} (h : Nm zs) : SeqAt.shaped (.tuple (zs.map PyData.str)) = true := by
  have k1 : ∀ l : List Str, Nm l → PyData.canLayAll0 (l.map PyData.str) = true := by
    intro l
    induction l with
    | nil => intro _; rw [List.map_nil, PyData.canLayAll0]
    | cons z r ih =>
      intro h
      rw [List.map_cons, PyData.canLayAll0, ih fun y hy => h y (List.mem_cons_of_mem _ hy), PyData.canLay0, name_ok (h z List.mem_cons_self)]
      rfl
  have k2 : ∀ l : List Str, PyData.depthAll (l.map PyData.str) = 0 := by
    intro l
    induction l with
    | nil => rw [List.map_nil, PyData.depthAll]
    | cons z r ih => rw [List.map_cons, PyData.depthAll, ih, PyData.depth]; rfl
  unfold SeqAt.shaped
  rw [PyData.canLay0, k1 zs h, PyData.depth, k2]
  rfl
/-! ### path.walkers() and == -/
def spWalkers (C : Addr) : Sp := fun vs H Q _ => ∃ (p t : Addr) (zs : List Str), vs = [.ref p] ∧ PathAt C H p t zs ∧ ∀ l, H l = none → Q (.ref l) (upd H l (.lst (zs.map V.str)))
def spEq (K : PySem.W.Frag) (C : Addr) : Sp := fun vs H Q _ => ∃ (p t : Addr) (zs : List Str) (v : V), vs = [.ref p, v] ∧ PathAt C H p t zs ∧ Nm zs ∧
  ((∃ k, Th K H v k ∧ Q (.bl false) H) ∨ ∃ (p2 t2 : Addr) (ys : List Str), v = .ref p2 ∧ PathAt C H p2 t2 ys ∧ Nm ys ∧ Q (.bl (decide (zs = ys))) H)
theorem dpAll_strs {K : PySem.W.Frag} {H : Hp} : ∀ zs : List Str, DpAll K H (zs.map V.str) (zs.map PyData.str)
  | [] => .nil
  | z :: r => .cons (.str z) (dpAll_strs r)
theorem beq_dec (z y : Str) : (z == y) = decide (z = y) := by
  by_cases e : z = y
  · subst e
    simp
  · rw [decide_eq_false e]
    simpa using e
theorem eqv_strs : ∀ zs ys : List Str, PyData.eqv (.tuple (zs.map PyData.str)) (.tuple (ys.map PyData.str)) = decide (zs = ys) := by
  have key : ∀ zs ys : List Str, PyData.eqvAll (zs.map PyData.str) (ys.map PyData.str) = decide (zs = ys) := by
    intro zs
    induction zs with
    | nil => intro ys; cases ys <;> simp [PyData.eqvAll]
    | cons z r ih =>
      intro ys
      cases ys with
      | nil => simp [PyData.eqvAll]
      | cons y t =>
        rw [List.map_cons, List.map_cons, PyData.eqvAll, ih t]
        have e1 : PyData.eqv (PyData.str z) (PyData.str y) = decide (z = y) := by rw [PyData.eqv]; exact beq_dec z y
        rw [e1]
        simp
  intro zs ys
  rw [PyData.eqv]
  exact key zs ys
section
variable {P : Program} {w : World} {K : PySem.W.Frag} {mg : Str → Option Value} {base : Heap} {C CB fB fE : Addr}
theorem scWalkers : FnScope ["self"] ["self"] (defScope sWalkers) := ⟨rfl, rfl, rfl, by decide +kernel, rfl, by decide +kernel, by decide +kernel⟩
theorem ok_walkers {f : Addr} {fd : FuncData} (F : Fun K "walkers" "Path.walkers" sWalkers f fd) (B : B0 K mg) (T : PT0 P K mg C CB fB) : FnOk P w K mg base CX0 1 f fd ["self"] (spWalkers C) := by
  refine F.ok scWalkers (fun vs H Q E h => ?_) (fun cdv A outer s H vs Q E hr h => ?_)
  · obtain ⟨p, t, zs, rfl, _⟩ := h
    rfl
  · obtain ⟨p, t, zs, rfl, hp, k⟩ := h
    obtain ⟨dx, ho⟩ := hp.ob
    refine ⟨_, pss_one (ps_ret (pe_callTy call_list_of (by rfl) B.list (by decide +kernel) (pa_cons (pe_fld (pv 0) rfl) pa_nil))), ?_⟩
    exact ⟨_, rfl, p, C, dx, _, _, rfl, ho, T.cl, T.nN, fNames_get t, t, _, rfl, .inr (SqT.of hp.tu), k⟩
theorem scEq : FnScope ["self", "other"] ["self", "other"] (defScope sEq) := ⟨rfl, rfl, rfl, by decide +kernel, rfl, by decide +kernel, by decide +kernel⟩
theorem ok_eq {f : Addr} {fd : FuncData} (F : Fun K "__eq__" "Path.__eq__" sEq f fd) (B : B0 K mg) (T : PT0 P K mg C CB fB) (T1 : PT1 K C fE) : FnOk P w K mg base CX0 1 f fd ["self", "other"] (spEq K C) := by
  refine F.ok scEq (fun vs H Q E h => ?_) (fun cdv A outer s H vs Q E hr h => ?_)
  · obtain ⟨p, t, zs, v, rfl, _⟩ := h
    rfl
  · obtain ⟨p, t, zs, v, rfl, hp, hl, k⟩ := h
    obtain ⟨dx, ho⟩ := hp.ob
    refine ⟨_, pss_one (ps_ret (pe_and (pe_callB call_isiZ (by rfl) B.isi (by decide +kernel) (pa_cons (pv 1) (pa_cons (pe_glob (v := .ref C) (by rfl) T.mgC rfl) pa_nil)))
      (pe_one (pe_cmpR (op_eqD hr.units) (pe_fld (pv 0) rfl) (pe_fld (pv 1) rfl) (nomark _))))), ?_⟩
    rcases k with ⟨kd, ht, q⟩ | ⟨p2, t2, ys, rfl, hp2, hn2, q⟩
    · refine ⟨_, rfl, v, .ref C, _, .ref C, false, rfl, .own C, ht.ty, kit_no T1 kd, false, rfl, ?_⟩
      exact iteF q
    · refine ⟨_, rfl, .ref p2, .ref C, _, .ref C, true, rfl, .own C, hp2.ty T T1, kit_yes, true, rfl, ?_⟩
      refine iteT ?_
      obtain ⟨dy, ho2⟩ := hp2.ob
      refine ⟨_, rfl, p, C, dx, _, _, rfl, ho, T.cl, T.nN, fNames_get t, _, rfl, p2, C, dy, _, _, rfl, ho2, T.cl, T.nN, fNames_get t2, _, _, .tup (SqT.of hp.tu) (dpAll_strs zs), .tup (SqT.of hp2.tu) (dpAll_strs ys), ?_, ?_, ?_⟩
      · exact shaped_strs hl
      · exact shaped_strs hn2
      · rw [eqv_strs]
        exact q
end
end RK

namespace RK
open PySem L2
/-! ### draws -/
def SpOk (m : Nat) (o : HO) : Prop := ∃ x y c : Int, o = .lst [.int x, .int y, .int c] ∧ 0 ≤ y ∧ y < 2147483648 ∧ 0 ≤ c ∧ c ≤ (m : Int)
def SpAt (H : Hp) (a : Addr) (m : Nat) : Prop := ∃ o, H a = some o ∧ SpOk m o
theorem SpOk.mono {m n : Nat} {o : HO} (h : SpOk m o) (e : m ≤ n) : SpOk n o := by
  obtain ⟨x, y, c, h1, h2, h3, h4, h5⟩ := h
  exact ⟨x, y, c, h1, h2, h3, h4, by omega⟩
def spDraw : Sp := fun vs H Q _ => ∃ (a : Addr) (n : Int) (m : Nat), vs = [.ref a, .int n] ∧ 0 < n ∧ n < 1000000000000000000 ∧ SpAt H a m ∧ m < 4000000000 ∧ ∀ r o, 0 ≤ r → r < n → SpOk (m + 1) o → Q (.int r) (upd H a o)
theorem fmod_range {i n : Int} (h : 0 < n) : 0 ≤ i.fmod n ∧ i.fmod n < n := by
  rw [Int.fmod_eq_emod_of_nonneg _ (Int.le_of_lt h)]
  exact ⟨Int.emod_nonneg _ (by omega), Int.emod_lt_of_pos _ h⟩
section
variable {P : Program} {w : World} {K : PySem.W.Frag} {mg : Str → Option Value} {base : Heap}
theorem scDraw : FnScope ["draws", "many", "found", "seed"] ["draws", "many"] (defScope sDraw) := ⟨rfl, rfl, rfl, by decide +kernel, rfl, by decide +kernel, by decide +kernel⟩
theorem ok_draw {f : Addr} {fd : FuncData} (F : Fun K "_law_draw" "_law_draw" sDraw f fd) (B : B0 K mg) : FnOk P w K mg base CX0 1 f fd ["draws", "many"] spDraw := by
  refine F.ok scDraw (fun vs H Q E h => ?_) (fun cdv A outer s H vs Q E hr h => ?_)
  · obtain ⟨a, n, m, rfl, _⟩ := h
    rfl
  · obtain ⟨a, n, m, rfl, hn, hn2, ⟨o, ho, x, y, c, rfl, hy0, hy1, hc0, hc1⟩, hm, k⟩ := h
    refine ⟨_, pss_cons (ps_if (pt_cmpR op_gt (pe_ix ix_list (pv 0) pe_int (fun _ _ => rfl)) pe_int (nomark _))
        (pss_cons (ps_set (i := 2) scDraw.nd rfl (Or.inl rfl) (pe_op op_modN (pe_callTy call_int1 (by rfl) B.int (by decide +kernel) (pa_cons (pe_ix ix_list (pv 0) pe_int (fun _ _ => rfl)) pa_nil)) (pv 1)))
        (pss_cons (ps_asg (pe_op op_fdivW (pe_ix ix_list (pv 0) pe_int (fun _ _ => rfl)) (pv 1)) (pg_sub (pv 0) pe_int set_list))
        (pss_one (ps_ret (pv 2))))) pss_nil)
      (pss_cons (ps_asg (pe_op op_add (pe_ix ix_list (pv 0) pe_int (fun _ _ => rfl)) pe_int) (pg_sub (pv 0) pe_int set_list))
      (pss_cons (ps_set (i := 3) scDraw.nd rfl (Or.inl rfl) (pe_op op_mod (pe_op op_pow (pe_callTy call_int1 (by rfl) B.int (by decide +kernel) (pa_cons (pe_op op_add (pe_ix ix_list (pv 0) pe_int (fun _ _ => rfl)) (pe_op op_mul pe_int (pe_ix ix_list (pv 0) pe_int (fun _ _ => rfl)))) pa_nil)) pe_int) pe_int))
      (pss_one (ps_ret (pe_op op_modN (pe_op op_fdiv (pe_op op_mod (pe_callTy call_int1 (by rfl) B.int (by decide +kernel) (pa_cons (pe_op op_mul (pe_op op_add (pv 3) (pe_ix ix_list (pv 0) pe_int (fun _ _ => rfl))) pe_int) pa_nil)) pe_int) pe_int) (pv 1)))))), ?_⟩
    -- if spring[0] > 0
    refine ⟨_, rfl, a, _, 0, _, rfl, rfl, SqL.of ho, atI_nat (j := 0) rfl, _, _, rfl, rfl, _, rfl, ?_⟩
    refine ite2 (fun hx => ?_) (fun hx => ?_)
    · have hx' : 0 < x := of_decide_eq_true hx
      refine ⟨_, rfl, a, _, 0, _, rfl, rfl, SqL.of ho, atI_nat (j := 0) rfl, .inl ⟨_, rfl, _, rfl, _, _, rfl, rfl, by omega, ?_⟩⟩
      refine ⟨_, rfl, a, _, 0, _, rfl, rfl, SqL.of ho, atI_nat (j := 0) rfl, _, rfl, _, _, rfl, rfl, wide_div (b := 60) hn (by omega) (by decide) (by decide), ?_⟩
      refine ⟨_, rfl, a, _, 0, 0, rfl, rfl, ho, by rfl, ?_⟩
      exact ⟨_, rfl, k _ _ (fmod_range hn).1 (fmod_range hn).2 ⟨_, y, c, rfl, hy0, hy1, hc0, by omega⟩⟩
    · refine ⟨_, rfl, a, _, 2, _, rfl, rfl, SqL.of ho, atI_nat (j := 2) rfl, _, _, rfl, rfl, ?_⟩
      refine ⟨_, rfl, a, _, 2, 2, rfl, rfl, ho, by rfl, ?_⟩
      have ho2 : (upd H a (.lst [.int x, .int y, .int (c + 1)])) a = some (.lst [.int x, .int y, .int (c + 1)]) := upd_same
      have b1 : (y + 7919 * (c + 1)).natAbs < 2 ^ 64 := by omega
      refine ⟨_, rfl, a, _, 1, _, rfl, rfl, SqL.of ho2, atI_nat (j := 1) rfl, _, rfl, a, _, 2, _, rfl, rfl, SqL.of ho2, atI_nat (j := 2) rfl, _, _, rfl, rfl, .inl ⟨by decide, by decide⟩, _, _, rfl, rfl, ?_⟩
      refine .inl ⟨_, rfl, _, _, rfl, rfl, ⟨by decide, by decide, b1⟩, _, _, rfl, rfl, (by show (0 : Int) < 2147483647; decide), ?_⟩
      refine ⟨_, rfl, _, rfl, a, _, 2, _, rfl, rfl, SqL.of ho2, atI_nat (j := 2) rfl, _, _, rfl, rfl, _, _, rfl, rfl, .inr ⟨by decide, by decide⟩, ?_⟩
      refine .inl ⟨_, rfl, _, _, rfl, rfl, (by show (0 : Int) < 2147483629; decide), _, _, rfl, rfl, ⟨by decide, by decide⟩, _, rfl, _, _, rfl, rfl, by omega, ?_⟩
      exact k _ _ (fmod_range hn).1 (fmod_range hn).2 ⟨x, y, c + 1, rfl, hy0, hy1, by omega, by omega⟩
end
end RK

namespace RK
open PySem L2
theorem seqIx {j n : Nat} (h : j < n) : seqIndex? (j : Int) n = some j := by
  rw [PySem.seqIndex_of (by omega) (by omega)]
  rfl
theorem perm_erase {α : Type} : ∀ {l : List α} {j : Nat} (h : j < l.length), ([l[j]] ++ l.eraseIdx j).Perm l
  | [], j, h => by simp at h
  | x :: r, 0, h => List.Perm.refl _
  | x :: r, j + 1, h => by
    have hj : j < r.length := by simpa using h
    have ih := perm_erase (l := r) (j := j) hj
    exact (List.Perm.swap x (r[j]'hj) (r.eraseIdx j)).trans (List.Perm.cons x ih)
def rLenS (K : PySem.W.Frag) : List V → Hp → VK → Prop := fun xs H Q => ∃ p ys, xs = [.ref p] ∧ (SqL K H p ys ∨ SqT K H p ys) ∧ Q (.int ys.length) H
theorem call_lenS {X : Cx} : CallR X (.builtin "len") (rLenS X.K) := call_len_seq
theorem mtr_popAt {X : Cx} : MtR X "list.pop" rPopAt := mt_popAt
/-- all but the object at a stand as they stood -/
def But (a : Addr) (H H' : Hp) : Prop := ∀ b o, b ≠ a → H b = some o → H' b = some o
theorem But.trans {a : Addr} {H H1 H2 : Hp} (x : But a H H1) (y : But a H1 H2) : But a H H2 := fun b o h e => y b o h (x b o h e)
theorem Same.but {a : Addr} {H H' : Hp} (s : Same H H') : But a H H' := fun b o _ e => s b o e
theorem But.upd {a : Addr} {H : Hp} {o : HO} : But a H (upd H a o) := fun b u h e => by rw [upd_ne h]; exact e
def spPick : Sp := fun vs H Q _ => ∃ (a l : Addr) (xs : List V) (m : Nat), vs = [.ref a, .ref l] ∧ a ≠ l ∧ SpAt H a m ∧ m < 4000000000 ∧ H l = some (.lst xs) ∧ 0 < xs.length ∧ xs.length ≤ 1000 ∧ ∀ v o, v ∈ xs → SpOk (m + 1) o → Q v (upd H a o)
/-- what may be compared in a list: data at some depth that stays while only the draws change -/
def DataOk (K : PySem.W.Frag) (a : Addr) (H : Hp) (x : V) : Prop := ∃ d : PyData, (∀ G, But a H G → Dp K G x d) ∧ d.canLay0 = true ∧ d.depth ≤ 30
theorem DataOk.str {K : PySem.W.Frag} {a : Addr} {H : Hp} {z : Str} (h : PyData.strOk z = true) : DataOk K a H (.str z) := ⟨.str z, fun _ _ => .str z, by simp only [PyData.canLay0, h], by simp only [PyData.depth]; decide⟩
theorem DataOk.int {K : PySem.W.Frag} {a : Addr} {H : Hp} {i : Int} : DataOk K a H (.int i) := ⟨.int i, fun _ _ => .int i, by simp only [PyData.canLay0], by simp only [PyData.depth]; decide⟩
theorem DataOk.but {K : PySem.W.Frag} {a : Addr} {H G : Hp} {x : V} (h : DataOk K a H x) (b : But a H G) : DataOk K a G x := let ⟨d, h1, h2⟩ := h; ⟨d, fun G' b' => h1 G' (b.trans b'), h2⟩
theorem data_all {K : PySem.W.Frag} {a : Addr} {H : Hp} : ∀ {xs : List V}, (∀ x ∈ xs, DataOk K a H x) → ∃ ds, DpAll K H xs ds ∧ PyData.canLayAll0 ds = true ∧ PyData.depthAll ds ≤ 30 ∧ ds.length = xs.length
  | [], _ => ⟨[], .nil, by simp only [PyData.canLayAll0], by simp only [PyData.depthAll]; decide, rfl⟩
  | x :: xs, h => by
    obtain ⟨d, h1, h2, h3⟩ := h x List.mem_cons_self
    obtain ⟨ds, g1, g2, g3, g4⟩ := data_all (xs := xs) fun y hy => h y (List.mem_cons_of_mem _ hy)
    refine ⟨d :: ds, .cons (h1 H fun _ _ _ e => e) g1, by simp only [PyData.canLayAll0, h2, g2, Bool.and_self], ?_, by rw [List.length_cons, List.length_cons, g4]⟩
    simp only [PyData.depthAll]
    omega
def spMixed (K : PySem.W.Frag) : Sp := fun vs H Q _ => ∃ (a l : Addr) (xs : List V) (m : Nat), vs = [.ref a, .ref l] ∧ a ≠ l ∧ SpAt H a m ∧ m < 3000000000 ∧ H l = some (.lst xs) ∧ xs.length ≤ 1000 ∧ (∀ x ∈ xs, DataOk K a H x) ∧
  ∀ p ys H', ys.Perm xs → H p = none → H' p = some (.lst ys) → SpAt H' a (m + xs.length) → But a H H' → Q (.ref p) H'
section
variable {P : Program} {w : World} {K : PySem.W.Frag} {mg : Str → Option Value} {base : Heap}
theorem scPick : FnScope ["draws", "some"] ["draws", "some"] (defScope sPick) := ⟨rfl, rfl, rfl, by decide +kernel, rfl, by decide +kernel, by decide +kernel⟩
theorem ok_pick {f fD : Addr} {fd fdD : FuncData} (F : Fun K "_law_pick" "_law_pick" sPick f fd) (B : B0 K mg) (FD : Fun K "_law_draw" "_law_draw" sDraw fD fdD) (bD : Binds K fdD ["draws", "many"] []) (gD : mg "_law_draw" = some (.ref fD)) :
    FnOk P w K mg base CX0 2 f fd ["draws", "some"] spPick := by
  have GD : FnOk P w K mg base CX0 1 fD fdD ["draws", "many"] spDraw := ok_draw FD B
  refine F.ok scPick (fun vs H Q E h => ?_) (fun cdv A outer s H vs Q E hr h => ?_)
  · obtain ⟨a, l, xs, m, rfl, _⟩ := h
    rfl
  · obtain ⟨a, l, xs, m, rfl, hal, hsp, hm, hl, h0, h1, k⟩ := h
    refine ⟨_, pss_one (ps_ret (pe_ix ix_list (pv 1) (pe_call GD hr (by rfl) gD FD.kp bD .nil pass0 (pa_cons (pv 0) (pa_cons (pe_callB call_len_seq (by rfl) B.len PySem.boot_len (pa_cons (pv 1) pa_nil)) pa_nil))) (fun _ _ => rfl))), ?_⟩
    refine ⟨_, rfl, _, rfl, _, rfl, l, _, rfl, .inl (SqL.of hl), a, xs.length, m, rfl, by omega, by omega, hsp, hm, fun r o hr0 hr1 ho => ?_⟩
    obtain ⟨i, rfl⟩ : ∃ i : Nat, r = (i : Int) := ⟨r.toNat, by omega⟩
    have hi : i < xs.length := by omega
    refine ⟨l, xs, _, xs[i], rfl, rfl, SqL.of (by rw [upd_ne (Ne.symm hal)]; exact hl), atI_nat (by simp [hi]), k _ _ (List.getElem_mem hi) ho⟩
theorem scMixed : FnScope ["draws", "some", "rest", "found"] ["draws", "some"] (defScope sMixed) := ⟨rfl, rfl, rfl, by decide +kernel, rfl, by decide +kernel, by decide +kernel⟩
theorem ok_mixed {f fD : Addr} {fd fdD : FuncData} (F : Fun K "_law_mixed" "_law_mixed" sMixed f fd) (B : B0 K mg) (FD : Fun K "_law_draw" "_law_draw" sDraw fD fdD) (bD : Binds K fdD ["draws", "many"] []) (gD : mg "_law_draw" = some (.ref fD)) :
    FnOk P w K mg base CX0 2 f fd ["draws", "some"] (spMixed K) := by
  have GD : FnOk P w K mg base CX0 1 fD fdD ["draws", "many"] spDraw := ok_draw FD B
  refine F.ok scMixed (fun vs H Q E h => ?_) (fun cdv A outer s H vs Q E hr h => ?_)
  · obtain ⟨a, l, xs, m, rfl, _⟩ := h
    rfl
  · obtain ⟨a, l, xs, m, rfl, hal, hsp, hm, hl, h1, hdat, k⟩ := h
    have hr1 : Room 1 _ := hr.mono (by decide)
    refine ⟨_, pss_cons (ps_par (i := 2) (j := 3) rfl scMixed.nd rfl rfl (by decide) rfl rfl (pa_cons (pe_callTy call_list_of (by rfl) B.list (by decide +kernel) (pa_cons (pv 1) pa_nil)) (pa_cons (pe_lst pa_nil) pa_nil)) (by rfl))
      (pss_cons (ps_while PassesOwn.never (pt_cmpR (op_neD hr.units) (pv 2) (pe_lst pa_nil) (nomark _))
        (pss_one (ps_expr (pe_bm PySem.F.plainAttrs_list PySem.F.slot_list_append PySem.F.type_list_append mt_append (pv 3) (pa_cons (pe_bm PySem.F.plainAttrs_list PySem.F.slot_list_pop PySem.F.type_list_pop mtr_popAt (pv 2) (pa_cons (pe_call GD hr1 (by rfl) gD FD.kp bD .nil pass0 (pa_cons (pv 0) (pa_cons (pe_callB call_len_seq (by rfl) B.len PySem.boot_len (pa_cons (pv 2) pa_nil)) pa_nil))) pa_nil)) pa_nil)))))
      (pss_one (ps_ret (pv 3)))), ?_⟩
    obtain ⟨osp, hosp, hok0⟩ := id hsp
    refine ⟨_, rfl, l, xs, rfl, .inl (SqL.of hl), fun L hL => ?_⟩
    generalize hE : upd H L _ = H1
    have s1 : Same H H1 := hE ▸ same_upd hL
    have eL := congrFun hE.symm L
    rw [upd_same] at eL
    clear hE
    refine ⟨by show 0 ≤ sizeLine; decide, fun D hD => ⟨_, _, rfl, ?_⟩⟩
    generalize hE : upd H1 D _ = H2
    have s2 : Same H1 H2 := hE ▸ same_upd hD
    have eD := congrFun hE.symm D
    rw [upd_same] at eD
    clear hE
    have naL : a ≠ L := ne_of_none hosp hL
    have nLD : L ≠ D := ne_of_none eL hD
    have naD : a ≠ D := ne_of_none (s1 _ _ hosp) hD
    refine ⟨fun j σ G => ∃ (rest acc : List V), j = rest.length ∧ σ = [some (.ref a), some (.ref l), some (.ref L), some (.ref D)] ∧ G L = some (.lst rest) ∧ G D = some (.lst acc) ∧ (acc ++ rest).Perm xs ∧ SpAt G a (m + acc.length) ∧ But a H G, ⟨_, xs, [], rfl, rfl, s2 _ _ eL, eD, List.Perm.refl _, ⟨osp, s2 _ _ (s1 _ _ hosp), hok0⟩, Same.but (s1.trans s2)⟩, ?_⟩
    rintro j σ G ⟨rest, acc, rfl, rfl, hr1', hd1, hperm, ⟨o1, ho1, hok1⟩, hbut⟩
    have hlen : acc.length + rest.length = xs.length := by rw [← List.length_append]; exact hperm.length_eq
    refine ⟨_, rfl, by show 0 ≤ sizeLine; decide, fun N hN => ?_⟩
    generalize hE : upd G N _ = G2
    have s3 : Same G G2 := hE ▸ same_upd hN
    have eN := congrFun hE.symm N
    rw [upd_same] at eN
    clear hE
    have b2 : But a H G2 := hbut.trans (Same.but s3)
    obtain ⟨ds, g1, g2, g3, g4⟩ := data_all (K := K) (a := a) (H := G2) (xs := rest) fun x hx => (hdat x (hperm.mem_iff.mp (List.mem_append_right _ hx))).but b2
    refine ⟨.list ds, .list [], .lst (SqL.of (s3 _ _ hr1')) g1, .lst (SqL.of eN) .nil, ?_, ?_, _, rfl, ?_⟩
    · unfold SeqAt.shaped
      simp only [PyData.canLay0, g2, PyData.depth]
      exact decide_eq_true (by omega)
    · rfl
    have enil : PyData.eqv (.list ds) (.list []) = decide (ds = []) := by cases ds <;> simp [PyData.eqv, PyData.eqvAll]
    rw [enil]
    have hr2 := s3 _ _ hr1'
    have hd2 := s3 _ _ hd1
    have ho2 := s3 _ _ ho1
    have hrL : L ≠ a := Ne.symm naL
    have hDn : H D = none := by
      cases q : H D with
      | none => rfl
      | some u => rw [s1 _ _ q] at hD; cases hD
    have hLn : H L = none := hL
    refine ite2 (fun hb => ?_) (fun hb => ?_)
    · have hpos : 0 < rest.length := by
        rw [← g4]
        exact List.length_pos_iff.mpr fun e => by rw [decide_eq_true e] at hb; cases hb
      refine ⟨fun σ' G' => ∃ (rest' acc' : List V), rest'.length < rest.length ∧ σ' = [some (.ref a), some (.ref l), some (.ref L), some (.ref D)] ∧ G' L = some (.lst rest') ∧ G' D = some (.lst acc') ∧ (acc' ++ rest').Perm xs ∧ SpAt G' a (m + acc'.length) ∧ But a H G', fun σ' G' ⟨rest', acc', q1, q2⟩ => ⟨_, q1, rest', acc', rfl, q2⟩, ?_⟩
      refine ⟨_, rfl, .inl ⟨rfl, _, SqL.of hd2⟩, _, rfl, .inl ⟨rfl, _, SqL.of hr2⟩, _, rfl, _, rfl, L, rest, rfl, .inl (SqL.of hr2), a, rest.length, m + acc.length, rfl, by omega, by omega, ⟨o1, ho2, hok1⟩, by omega, fun r o hr0 hr3 ho => ?_⟩
      obtain ⟨j, rfl⟩ : ∃ j : Nat, r = (j : Int) := ⟨r.toNat, by omega⟩
      have hj : j < rest.length := by omega
      refine ⟨L, rest, (j : Int), j, rest[j], rfl, rfl, by rw [upd_ne hrL]; exact hr2, by omega, by omega, seqIx hj, by simp [hj], ?_⟩
      refine ⟨D, acc, _, rfl, rfl, by rw [upd_ne (Ne.symm nLD), upd_ne (Ne.symm naD)]; exact hd2, Nat.lt_of_le_of_lt (show acc.length ≤ 1000 by omega) (by decide), ?_⟩
      refine ⟨rest.eraseIdx j, acc ++ [rest[j]], by rw [List.length_eraseIdx_of_lt hj]; omega, rfl, by rw [upd_ne nLD, upd_same], upd_same, ?_, ⟨o, by rw [upd_ne naD, upd_ne naL, upd_same], by rw [List.length_append]; exact ho.mono (by show m + acc.length + 1 ≤ m + (acc.length + 1); omega)⟩, fun b u hb e => ?_⟩
      · refine List.Perm.trans ?_ hperm
        rw [List.append_assoc]
        exact List.Perm.append_left acc (perm_erase hj)
      · rw [upd_ne (fun z => by rw [z, hDn] at e; cases e), upd_ne (fun z => by rw [z, hLn] at e; cases e), upd_ne hb]
        exact b2 _ _ hb e
    · have hrest : rest = [] := by
        have e : ds = [] := Decidable.byContradiction fun e => hb (by rw [decide_eq_false e]; rfl)
        rw [e] at g4
        exact List.length_eq_zero_iff.mp g4.symm
      subst hrest
      rw [List.append_nil] at hperm
      exact ⟨_, rfl, k D acc G2 hperm hDn hd2 ⟨o1, ho2, by rw [← hperm.length_eq]; exact hok1⟩ b2⟩
end
end RK

namespace RK
open PySem L2
/-! ### the names drawn -/
def pool : List Str := ["a", "b", "c9", "zoe", "eightsgn", "m", "k2", "ann", "x", "bo", "q7", "last", "d", "e1", "ff", "g", "hal", "i", "jo", "kay2"]
theorem pool_nodup : pool.Nodup := by decide +kernel
theorem pool_names : Nm pool := by unfold Nm pool; decide +kernel
theorem pool_short : ∀ z ∈ pool, z.length ≤ 40 ∧ ∀ c ∈ z.cps.toList, c < 16 ^ 8 := by decide +kernel
theorem pool_ok : ∀ z ∈ pool, PyData.strOk z = true := by decide +kernel
def spNames : Sp := fun vs H Q _ => ∃ (a : Addr) (k m : Nat), vs = [.ref a, .int (k : Nat)] ∧ k ≤ 20 ∧ SpAt H a m ∧ m < 2000000000 ∧
  ∀ p (zs : List Str) H', zs.Nodup → (∀ z ∈ zs, z ∈ pool) → zs.length = k → H p = none → H' p = some (.lst (zs.map V.str)) → SpAt H' a (m + 20) → But a H H' → Q (.ref p) H'
def unStr : V → Str
  | .str z => z
  | _ => "b"
theorem perm_strs {ys : List V} {l : List Str} (h : ys.Perm (l.map V.str)) : ∃ zs : List Str, zs.Perm l ∧ ys = zs.map V.str := by
  refine ⟨ys.map unStr, ?_, ?_⟩
  · have q := h.map unStr
    rw [List.map_map] at q
    have e : (unStr ∘ V.str) = id := rfl
    rw [e, List.map_id] at q
    exact q
  · rw [List.map_map]
    have e : ∀ y ∈ ys, (V.str ∘ unStr) y = y := fun y hy => by
      obtain ⟨z, _, rfl⟩ := List.mem_map.mp (h.mem_iff.mp hy)
      rfl
    rw [List.map_congr_left e, List.map_id'']
    intro x
    rfl
theorem cut_to {l : List V} {k : Nat} : cutV l none (some (k : Nat)) = l.take k := by
  unfold cutV
  rw [HT.sIx_none, HT.sIx_nat, List.drop_zero, Nat.sub_zero]
  rcases Nat.le_total k l.length with h | h
  · rw [Nat.min_eq_left h]
  · rw [Nat.min_eq_right h, List.take_of_length_le (Nat.le_refl _), List.take_of_length_le h]
theorem cut_from {l : List V} {k : Nat} : cutV l (some (k : Nat)) none = l.drop k := by
  unfold cutV
  rw [HT.sIx_none, HT.sIx_nat]
  rcases Nat.le_total k l.length with h | h
  · rw [Nat.min_eq_left h, List.take_of_length_le (by rw [List.length_drop]; exact Nat.le_refl _)]
  · rw [Nat.min_eq_right h, List.drop_of_length_le h, List.drop_of_length_le (Nat.le_refl _), List.take_nil]
section
variable {P : Program} {w : World} {K : PySem.W.Frag} {mg : Str → Option Value} {base : Heap}
theorem scNames : FnScope ["draws", "many", "some"] ["draws", "many"] (defScope sFewNames) := ⟨rfl, rfl, rfl, by decide +kernel, rfl, by decide +kernel, by decide +kernel⟩
theorem ok_names {f fM : Addr} {fd fdM : FuncData} (F : Fun K "_law_names" "_law_names" sFewNames f fd)
    (GM : FnOk P w K mg base CX0 2 fM fdM ["draws", "some"] (spMixed K)) (bM : Binds K fdM ["draws", "some"] []) (gM : mg "_law_mixed" = some (.ref fM)) (kM : PySem.W.keepIn K (.ref fM) = true) :
    FnOk P w K mg base CX0 3 f fd ["draws", "many"] spNames := by
  refine F.ok scNames (fun vs H Q E h => ?_) (fun cdv A outer s H vs Q E hr h => ?_)
  · obtain ⟨a, k, m, rfl, _⟩ := h
    rfl
  · obtain ⟨a, n, m, rfl, h2, hsp, hm, k⟩ := h
    refine ⟨_, pss_cons (ps_set (i := 2) scNames.nd rfl (Or.inl rfl) (pe_lst (pa_cons pe_str (pa_cons pe_str (pa_cons pe_str (pa_cons pe_str (pa_cons pe_str (pa_cons pe_str (pa_cons pe_str (pa_cons pe_str (pa_cons pe_str (pa_cons pe_str (pa_cons pe_str (pa_cons pe_str (pa_cons pe_str (pa_cons pe_str (pa_cons pe_str (pa_cons pe_str (pa_cons pe_str pa_nil)))))))))))))))))))
      (pss_one (ps_ret (pe_slice sl_list (pe_call GM hr (by rfl) gM kM bM .nil pass0 (pa_cons (pv 0) (pa_cons (pe_op op_cat (pv 2) (pe_lst (pa_cons pe_str (pa_cons pe_str (pa_cons pe_str pa_nil))))) pa_nil))) po_none (po_some (pv 1))))), ?_⟩
    refine ⟨by show 17 ≤ sizeLine; decide, fun L hL => ?_⟩
    obtain ⟨osp, hosp, hok0⟩ := id hsp
    generalize hE : upd H L _ = G1
    have s1 : Same H G1 := hE ▸ same_upd hL
    have eL := congrFun hE.symm L
    rw [upd_same] at eL
    clear hE
    refine ⟨_, rfl, _, rfl, by show 3 ≤ sizeLine; decide, fun M hM => ?_⟩
    generalize hE : upd G1 M _ = G2
    have s2 : Same G1 G2 := hE ▸ same_upd hM
    have eM := congrFun hE.symm M
    rw [upd_same] at eM
    clear hE
    refine ⟨L, M, _, _, rfl, rfl, s2 _ _ eL, eM, by show 17 + 3 ≤ sizeLine; decide, fun N hN => ?_⟩
    generalize hE : upd G2 N _ = G3
    have s3 : Same G2 G3 := hE ▸ same_upd hN
    have eN := congrFun hE.symm N
    rw [upd_same] at eN
    clear hE
    replace eN : G3 N = some (.lst (pool.map V.str)) := eN
    have s03 := s1.trans (s2.trans s3)
    refine ⟨a, N, pool.map V.str, m, rfl, ne_of_none (s2 _ _ (s1 _ _ hosp)) hN, ⟨osp, s03 _ _ hosp, hok0⟩, by omega, eN, by show 20 ≤ 1000; decide, fun x hx => ?_, fun p ys H' hperm hp hp' hsp' hbut => ?_⟩
    · obtain ⟨z, hz, rfl⟩ := List.mem_map.mp hx
      exact .str (pool_ok z hz)
    have hpool : (pool.map V.str).length = 20 := by decide +kernel
    rw [hpool] at hsp'
    obtain ⟨zs, hzs, rfl⟩ := perm_strs hperm
    have hlen : zs.length = 20 := hzs.length_eq
    refine ⟨_, rfl, _, rfl, p, zs.map V.str, rfl, SqL.of hp', fun R hR => ?_⟩
    have hcut : cutV (zs.map V.str) none (some (n : Nat)) = (zs.take n).map V.str := by
      unfold cutV
      rw [HT.sIx_none, HT.sIx_nat, List.drop_zero, List.length_map, hlen, Nat.sub_zero, Nat.min_eq_left (by omega), List.map_take]
    have hnd : zs.Nodup := hzs.nodup_iff.mpr pool_nodup
    have htl : (zs.take n).length = n := by rw [List.length_take, hlen]; omega
    have b0 : But a H (upd H' R (.lst (cutV (zs.map V.str) none (some (n : Nat))))) := (Same.but s03).trans (hbut.trans (Same.but (same_upd hR)))
    have hRa : R ≠ a := fun e => by
      obtain ⟨o, ho, _⟩ := hsp'
      rw [e, ho] at hR
      cases hR
    have hRn : H R = none := by
      cases q : H R with
      | none => rfl
      | some u => exact absurd (((Same.but s03).trans hbut) R u hRa q) (by rw [hR]; exact fun z => nomatch z)
    obtain ⟨o, ho, hk⟩ := hsp'
    exact k R (zs.take n) _ (hnd.sublist (List.take_sublist _ _)) (fun z hz => hzs.mem_iff.mp (List.mem_of_mem_take hz)) htl hRn (by rw [hcut, upd_same]) ⟨o, by rw [upd_ne (Ne.symm hRa)]; exact ho, hk⟩ b0
end
end RK

namespace RK
open PySem L2
def spSpring (K : PySem.W.Frag) : Sp := fun vs H Q _ => ∃ (sc : Addr) (ns : List Int) (t : Nat), vs = [.ref sc, .int t] ∧ SqL K H sc (ns.map V.int) ∧ ns.length ≤ 63 ∧ t ≤ 100 ∧ ∀ p o H', H p = none → H' p = some o → SpOk 0 o → Same H H' → Q (.ref p) H'
section
variable {P : Program} {w : World} {K : PySem.W.Frag} {mg : Str → Option Value} {base : Heap}
theorem scSource : FnScope ["script", "place", "cell", "seed", "other"] ["script", "place"] (defScope sSource) := ⟨rfl, rfl, rfl, by decide +kernel, rfl, by decide +kernel, by decide +kernel⟩
theorem ok_source {f : Addr} {fd : FuncData} (F : Fun K "_law_source" "_law_source" sSource f fd) (B : B0 K mg) (zsum : mg "sum" = none) : FnOk P w K mg base CX0 1 f fd ["script", "place"] (spSpring K) := by
  refine F.ok scSource (fun vs H Q E h => ?_) (fun cdv A outer s H vs Q E hr h => ?_)
  · obtain ⟨sc, ns, t, rfl, _⟩ := h
    rfl
  · obtain ⟨sc, ns, t, rfl, hS, hl, ht, k⟩ := h
    refine ⟨_, Evl.pss_cut (ps_set (i := 2) scSource.nd rfl (Or.inl rfl) (pe_ifExp (pt_cmpR op_lt (pv 1) (pe_callB call_len_seq (by rfl) B.len PySem.boot_len (pa_cons (pv 0) pa_nil)) (nomark _)) (pe_ix ix_list (pv 0) (pv 1) (fun _ _ => rfl))
          (pe_op op_add (pe_op op_add (pe_op op_mod (pe_callTy call_int1 (by rfl) B.int (by decide +kernel) (pa_cons (pe_callB (cr_sum rfl) (by rfl) zsum (by decide +kernel) (pa_cons (pe_slice sl_list (pv 0) po_none (po_some pe_int)) pa_nil)) pa_nil)) pe_int) (pe_op op_mul pe_int (pv 1))) pe_int)))
      (pss_cons (ps_set (i := 3) scSource.nd rfl (Or.inl rfl) (pe_op op_add (pe_op op_mul pe_int (pv 1)) pe_int))
      (pss_cons (ps_for PassesOwn.never rfl (pi_list (pv 0)) (pg_name (i := 4) scSource.nd rfl (Or.inl rfl))
        (pss_one (ps_set (i := 3) scSource.nd rfl (Or.inl rfl) (pe_op op_mod (pe_callTy call_int1 (by rfl) B.int (by decide +kernel) (pa_cons (pe_op op_add (pe_op op_mul (pv 3) pe_int) (pv 4)) pa_nil)) pe_int))))
      (pss_one (ps_ret (pe_lst (pa_cons (pe_ifExp (pt_cmpR op_ge (pv 2) (pe_op op_pow pe_int pe_int) (nomark _)) (pv 2) pe_int) (pa_cons (pe_op op_mod (pe_callTy call_int1 (by rfl) B.int (by decide +kernel) (pa_cons (pe_op op_add (pv 3) (pe_op op_mul pe_int (pv 2))) pa_nil)) pe_int) (pa_cons pe_int pa_nil)))))))), ?_⟩
    refine ⟨fun σ H1 => Same H H1 ∧ ∃ cell : Int, σ = [some (.ref sc), some (.int t), some (.int cell), none, none], ?_, ?_⟩
    · refine ⟨_, rfl, _, rfl, sc, _, rfl, .inl hS, _, _, rfl, rfl, _, rfl, ?_⟩
      rw [List.length_map]
      refine ite2 (fun h1 => ?_) (fun h1 => ?_)
      · have h1' : t < ns.length := by have := of_decide_eq_true h1; omega
        exact ⟨_, rfl, _, rfl, sc, _, _, _, rfl, rfl, hS, atI_nat (by rw [List.getElem?_map, List.getElem?_eq_getElem h1']; rfl), fun _ _ e => e, _, rfl⟩
      · refine ⟨_, rfl, _, rfl, sc, _, rfl, hS, fun L hL => ?_⟩
        have ec : cutV (ns.map V.int) none (some 1) = (ns.take 1).map V.int := (cut_to (k := 1)).trans List.map_take.symm
        rw [ec]
        generalize hE : upd H L _ = H1
        have s1 : Same H H1 := hE ▸ same_upd hL
        have eL := congrFun hE.symm L
        rw [upd_same] at eL
        clear hE
        refine ⟨L, ns.take 1, rfl, SqL.of eL, .inl ⟨_, rfl, _, _, rfl, rfl, (by show (0 : Int) < 1000003; decide), _, rfl, _, _, rfl, rfl, .inl ⟨by decide, by decide⟩, _, _, rfl, rfl, _, _, rfl, rfl, s1, _, rfl⟩⟩
    · rintro σ H1 ⟨s1, cell, rfl⟩
      have hS1 : SqL K H1 sc (ns.map V.int) := by
        rcases hS with (h | ⟨o, h⟩) | h
        · exact .inl (.inl (s1 _ _ h))
        · exact .inl (.inr ⟨o, s1 _ _ h⟩)
        · exact .inr h
      refine ⟨_, rfl, _, _, rfl, rfl, .inl ⟨by decide, by decide⟩, _, _, rfl, rfl, ?_⟩
      refine ⟨_, rfl, sc, rfl, ⟨_, hS1⟩, for_list (xs := ns.map V.int) (fun i σ H' => ∃ (w4 : Option V) (mx : Int), σ = [some (.ref sc), some (.int t), some (.int cell), some (.int mx), w4] ∧ 0 ≤ mx ∧ mx < 2147483629 ∧ H' = H1)
        ⟨none, _, rfl, by omega, by omega, rfl⟩ (fun i σ H' _ ⟨_, _, _, _, _, e⟩ => by rw [e]; exact hS1) ?_ ?_⟩
      · rintro i x σ H2 hx ⟨w4, mx, rfl, hm0, hm1, rfl⟩
        rw [List.getElem?_map] at hx
        obtain ⟨z, _, rfl⟩ := Option.map_eq_some_iff.mp hx
        refine ⟨_, rfl, _, _, rfl, rfl, .inl ⟨by omega, by omega⟩, _, rfl, _, _, rfl, rfl, .inl ⟨_, rfl, _, _, rfl, rfl, (by show (0 : Int) < 2147483629; decide), ?_⟩⟩
        exact ⟨_, _, rfl, Int.emod_nonneg _ (by decide), Int.emod_lt_of_pos _ (by decide), rfl⟩
      · rintro σ H2 ⟨w4, mx, rfl, hm0, hm1, rfl⟩
        refine ⟨_, rfl, _, _, rfl, rfl, ⟨by decide, by decide, by decide⟩, _, _, rfl, rfl, _, rfl, ?_⟩
        have fin : ∀ cl : Int, ∀ p, H2 p = none → Q (.ref p) (upd H2 p (.lst [.int cl, .int ((mx + 48271 * cell) % 2147483629), .int 0])) := fun cl p hp =>
          k p _ _ (s1.free hp) upd_same ⟨_, _, _, rfl, Int.emod_nonneg _ (by decide), Int.lt_trans (Int.emod_lt_of_pos _ (by decide)) (by decide), by decide, by decide⟩ (s1.trans (same_upd hp))
        refine ite2 (fun h1 => ?_) (fun h1 => ?_)
        · refine ⟨_, rfl, _, rfl, _, rfl, _, _, rfl, rfl, .inl ⟨by decide, by decide⟩, _, _, rfl, rfl, .inl ⟨_, rfl, _, _, rfl, rfl, (by show (0 : Int) < 2147483629; decide), by show 3 ≤ sizeLine; decide, fun p hp => fin _ p hp⟩⟩
        · refine ⟨_, rfl, _, rfl, _, _, rfl, rfl, .inl ⟨by decide, by decide⟩, _, _, rfl, rfl, .inl ⟨_, rfl, _, _, rfl, rfl, (by show (0 : Int) < 2147483629; decide), by show 3 ≤ sizeLine; decide, fun p hp => fin _ p hp⟩⟩
end
end RK

/-! a set comprehension of ints: {e for t in xs if ..} -/
namespace L2
open PySem PySem.Spec PyProof.Rows
/-- what a turn owes: the number into the set at D, then the next turn's wish -/
def IntIn (w : World) (D : Addr) (Nx : Hp → Prop) : V → Hp → Prop := fun y G => ∃ (k : Int) (S : Int → Bool) (n : Nat), y = .int k ∧ G D = some (SetO w D S n) ∧ n + 1 < scanBound ∧ Nx (upd G D (SetO w D (fun j => S j || decide (j = k)) (if S k = true then n else n + 1)))
def OneTurn (w : World) (D : Addr) (g : TG) (tt : TT) (te : TE) (vs : List Nat) (σ : St) (Nx : Hp → Prop) (x : V) (G : Hp) : Prop :=
  g x (wipe σ vs) G fun ρ G1 => wipe ρ vs = wipe σ vs ∧ tt ρ G1 fun b G2 => if b = true then te ρ G2 (IntIn w D Nx) else Nx G2
def SetWalk (w : World) (J : It) (D : Addr) (g : TG) (tt : TT) (te : TE) (vs : List Nat) (σ : St) (H1 : Hp) (Qd : Hp → Prop) : Prop :=
  ∃ W : Nat → Nat → Hp → Prop, (∃ m, W 0 m (upd H1 D (SetO w D (fun _ => false) 0))) ∧ ∀ i m G, W i m G →
    (J.stop i G ∧ Qd G) ∨ (J.go i G ∧ ∃ Nx : Hp → Prop, (∀ G', Nx G' → ∃ m', m' < m ∧ W (i + 1) m' G') ∧ ∀ x G', J.yld i G x G' → OneTurn w D g tt te vs σ Nx x G')
def tScI (w : World) (wi : TI) (g : TG) (tt : TT) (te : TE) (vs : List Nat) : TE := fun σ H Q => wi σ H fun J H1 => ∀ D, H1 D = none → SetWalk w J D g tt te vs σ H1 fun G => Q (.ref D) G
section
variable {X : Cx} {elt tg iter : Expr} {ifs : List Expr} {scope : Scope} {own : List (Str × Nat)} {wi : TI} {g : TG} {tt : TT} {te : TE}
/-- the block's three parts, wherever it stands -/
structure Blk3 (X : Cx) (tg elt : Expr) (ifs : List Expr) (scope : Scope) (g : TG) (tt : TT) (te : TE) : Prop where
  tgt : ∀ (u : Shared) (G : Hp) (L : Addr) (cl : List (Str × Addr)) (fp : List Addr), PG (X.blk u G scope (compEnvC scope cl L X.env) fp) tg g
  tst : ∀ (u : Shared) (G : Hp) (L : Addr) (cl : List (Str × Addr)) (fp : List Addr), PTs (X.blk u G scope (compEnvC scope cl L X.env) fp) ifs tt
  elm : ∀ (u : Shared) (G : Hp) (L : Addr) (cl : List (Str × Addr)) (fp : List Addr), PE (X.blk u G scope (compEnvC scope cl L X.env) fp) elt te
theorem scI_core {pins : List (Addr × Obj)} {s : Shared} {σ : St} {H : Hp} {Q : VK} {pos pos' : Pos} {use : Option (Value → Sem Unit)} {Qf : Value → Shared → Prop} (hc : X.calm = true) (hN : X.N.Nodup) (Inow : Inv X pins σ H s) (hi : PI X tg iter wi) (ok : BlkOk X.N X.env.scope scope own)
    (B : Blk3 X tg elt ifs scope g tt te) (hfold : ∀ x, foldedSetIterable iter X.env x = pure x) (h : tScI X.w wi g tt te (own.map (·.2)) σ H Q)
    (hend : ∀ D L u m G, Inv X pins σ G u → Q (.ref D) G → u.heap.Ns L m → FpOk X pins G L → compPost (model X.prog X.w) X.A X.xe use Qf (.ref D) L (.ok .next) u) :
    wpAny (model X.prog X.w) X.A (comprehension (.SetComp elt [⟨tg, iter, ifs, 0⟩] scope pos) scope X.env pos' (newSet (.type "set")) false (eval iter X.env) use) Qf X.xe s := by
  have free : ∀ y ∈ scope.names, y.2 = .free → ∃ c, X.env.cells.lookup y.1 = some c := fun y hy e => (ok.free y hy e).elim (fun k => Inow.ok.has _ (.inl k)) fun k => Inow.ok.has _ (.inr k)
  refine wpAny_comprehension_free (use := use) rfl hfold (closure_ok free) ok.kind (fun y hy e => by rw [ok.uniq y hy, e]) (thn (hi.run pins s σ H _ Inow h) fun xv u1 hx => thn hx fun itv u2 got => ?_)
  obtain ⟨it, fp, tn, J, G2, rfl, I2, T, at0, own2, walk⟩ := got
  refine PpSet.newSet_ok (newEnv_comp ?_)
  generalize hD : u2.heap.objs.size = D
  have fresh : G2 D = none := I2.hok.fresh (Nat.le_of_eq hD)
  obtain ⟨W, ⟨m0, begins⟩, turn⟩ := walk D fresh
  -- the empty set stands
  generalize hG3 : upd G2 D (SetO X.w D (fun _ => false) 0) = G3 at begins
  generalize hu3 : ({ u2 with heap := u2.heap.push { cls := .type "set", dict := none, data := .set #[] 0 (.fresh 0 0 (!X.w.params.followText "set-order")) } } : Shared) = u3
  have p3 : u3.heap = u2.heap.push { cls := .type "set", dict := none, data := .set #[] 0 (.fresh 0 0 (!X.w.params.followText "set-order")) } := by rw [← hu3]
  have I3 : Inv X pins σ G3 u3 := by
    rw [← hG3, ← hu3]
    refine I2.laid (t' := u2.toks) (fun b o e => Heap.get?_push_of_some _ e) (Nat.le_of_eq hD) ?_
    rw [← hD]
    exact setO_new (setR_fresh X.w)
  have below : ∀ b ∈ fp, b < u2.heap.objs.size := fun b hb => let ⟨_, e, _⟩ := T.obj _ _ at0 b hb; Heap.lt_size e
  have own3 : ∀ b ∈ fp, FpOk X pins G3 b ∧ b < u3.heap.objs.size := fun b hb => by
    have lt := below b hb
    refine ⟨⟨?_, (own2 b hb).2⟩, by rw [p3, Heap.size_push]; exact Nat.lt_succ_of_lt lt⟩
    rw [← hG3, upd_ne (by rw [← hD]; exact Nat.ne_of_lt lt)]
    exact (own2 b hb).1
  have at3 : tn 0 u3.heap := T.keep _ _ _ at0 fun b _ o e => by rw [p3]; exact Heap.get?_push_of_some _ e
  have I4 := block_start I3 ok hN own3
  have pg := B.tgt u3 G3 u3.heap.objs.size (cellsFrom (u3.heap.objs.size + 1) scope.names (cloFrom X.env.cells scope.names [])) fp
  have pt := B.tst u3 G3 u3.heap.objs.size (cellsFrom (u3.heap.objs.size + 1) scope.names (cloFrom X.env.cells scope.names [])) fp
  have pe := B.elm u3 G3 u3.heap.objs.size (cellsFrom (u3.heap.objs.size + 1) scope.names (cloFrom X.env.cells scope.names [])) fp
  have no3 : ∀ b ∈ fp, G3 b = none := fun b hb => (own3 b hb).1.1
  show codeAny _ _ (.compStart (.SetComp elt [⟨tg, iter, ifs, 0⟩] scope pos) 0 (.ref it) (.ref D) (compEnvC scope (cellsFrom (u3.heap.objs.size + 1) scope.names (cloFrom X.env.cells scope.names [])) u3.heap.objs.size X.env)) (compPost (model X.prog X.w) X.A X.xe use Qf (.ref D) u3.heap.objs.size) { u3 with heap := pushCells (u3.heap.push { cls := .type "dict", data := .dict #[] }) scope.names }
  generalize hce : compEnvC scope (cellsFrom (u3.heap.objs.size + 1) scope.names (cloFrom X.env.cells scope.names [])) u3.heap.objs.size X.env = ce at I4 pg pt pe ⊢
  have lce : ce.locals = u3.heap.objs.size := by rw [← hce] <;> rfl
  generalize hu4 : ({ u3 with heap := pushCells (u3.heap.push { cls := .type "dict", data := .dict #[] }) scope.names } : Shared) = u4 at I4 ⊢
  have at4 : tn 0 u4.heap := T.keep _ _ _ at3 fun b _ o e => by rw [← hu4]; exact pushCells_keeps _ _ _ _ (Heap.get?_push_of_some _ e)
  generalize hY : X.blk u3 G3 scope ce fp = Y at I4 pg pt pe
  have Yw : Y.w = X.w := by rw [← hY]
  have held : ∀ {ρ : St} {G : Hp} {u : Shared}, Inv Y [] ρ G u → (∀ b ∈ fp, G b = none) → ∀ b ∈ fp, FpOk Y [] G b := fun {ρ G u} I' no b hb => by
    subst hY
    exact ⟨no b hb, (I'.ok.exf b hb).1, I'.ok.exfs b hb, .inl hb, fun x c e => (I'.ok.exf b hb).2 x c e, fun p hp => absurd (show p ∈ ([] : List (Addr × Obj)) ++ [] from hp) (by simp)⟩
  have loop : codeAny (model X.prog X.w) X.A (.compLoop (.SetComp elt [⟨tg, iter, ifs, 0⟩] scope pos) 0 (.ref it) (.ref D) ce) (compPost (model X.prog X.w) X.A X.xe use Qf (.ref D) u3.heap.objs.size) u4 := by
    refine PpSet.compLoopS_any (fun n u => ∃ i G, Inv Y [] (wipe σ (own.map (·.2))) G u ∧ tn i u.heap ∧ (∀ b ∈ fp, G b = none) ∧ W i n G) ?_ m0 ⟨0, G3, I4, at4, no3, begins⟩
    rintro n u5 ⟨i, G5, I5, at5, no5, w5⟩
    have TY := fun (go : Bool) => held I5 no5
    subst hY
    rcases turn i n G5 w5 with ⟨stop, qq⟩ | ⟨go, Nx, hNx, step⟩
    · refine thnF (T.done (X.blk u3 G3 scope ce fp) rfl rfl rfl hc i [] u5 _ G5 (fun _ _ => False) I5 (held I5 no5) at5 stop) fun r u6 ⟨hr, I6⟩ => ?_
      subst hr
      have back : Inv X pins σ G5 u6 := I3.call' (ch := fp) I6.os I6.base I6.hok I6.bare fun b hb => let z := (own3 b hb).1; ⟨z.2.2.2.1, z.2.1, z.2.2.2.2.1, z.2.2.2.2.2⟩
      have nL : G5 u3.heap.objs.size = none := lce ▸ (I6.free : G5 ce.locals = none)
      obtain ⟨m, ns, _⟩ := I6.loc
      exact hend D u3.heap.objs.size u6 m G5 back qq (lce ▸ (ns : u6.heap.Ns ce.locals m)) (I3.fpOk (Nat.le_refl _) nL)
    · refine thnF (T.item (X.blk u3 G3 scope ce fp) rfl rfl rfl hc i [] u5 _ G5 (fun _ _ => False) I5 (held I5 no5) at5 go) fun r u6 ⟨u, hr, h6⟩ => ?_
      subst hr
      refine thnF h6 fun _ u7 ⟨x, G7, I7, r7, y7, at7, no7⟩ => ?_
      refine thnF (pg.run _ u7 _ G7 x u _ (I7.pinned (held I7 no7) (T.obj _ _ at7)) r7 (step x G7 y7)) fun _ u8 ⟨ρ, G8, I8, same, q8⟩ => ?_
      refine thnF (pt.run _ u8 ρ G8 _ I8 q8) fun b u9 ⟨G9, I9, q9⟩ => ?_
      have next : ∀ {u' : Shared} {G' : Hp}, Inv (X.blk u3 G3 scope ce fp) ([] ++ pinsAt fp u7.heap) ρ G' u' → Nx G' → ∃ m, m < n ∧ ∃ i G, Inv (X.blk u3 G3 scope ce fp) [] (wipe σ (own.map (·.2))) G u' ∧ tn i u'.heap ∧ (∀ b ∈ fp, G b = none) ∧ W i m G := fun {u' G'} I' nx => by
        obtain ⟨m', less, w'⟩ := hNx G' nx
        have pinned : ∀ b ∈ fp, ∀ o, u7.heap.get? b = some o → u'.heap.get? b = some o ∧ G' b = none := fun b hb o e => let z := I'.pin (b, o) (List.mem_append_right _ (List.mem_append_right _ (mem_pinsAt hb e))); ⟨z.1, z.2.1⟩
        have hl : (wipe σ (own.map (·.2))).length = ρ.length := by rw [← same, wipe_length]
        refine ⟨m', less, i + 1, G', (I'.unpinned (pins := [])).weak hl (fun j v e => ?_), T.keep _ _ _ at7 fun b hb o e => (pinned b hb o e).1, fun b hb => ?_, w'⟩
        · rw [← same] at e
          exact (wipe_some e).1
        · obtain ⟨o, e, _⟩ := T.obj _ _ at7 b hb
          exact (pinned b hb o e).2
      cases b with
      | false =>
        rw [if_neg Bool.false_ne_true] at q9 ⊢
        exact next I9 q9
      | true =>
        rw [if_pos rfl] at q9 ⊢
        refine thnF (pe.run _ u9 ρ G9 _ I9 q9) fun z u10 ⟨yv, G10, I10, r10, k, S0, n0, ey, at10, room, nx⟩ => ?_
        subst ey
        refine thnF (mt_sadd (X := X.blk u3 G3 scope ce fp) _ u10 ρ G10 (.ref D) [.int k] _ _ (fun _ G' => Nx G') I10 rfl (.cons r10 .nil) ⟨D, k, S0, n0, rfl, rfl, at10, room, nx⟩) fun _ u11 ⟨_, G11, I11, _, q11⟩ => next I11 q11
  exact PpSet.codeAny_compStart_set loop (T.self X.A 0 _ _ _ at4 loop)
theorem pe_scI {pos : Pos} (hc : X.calm = true) (hN : X.N.Nodup) (hi : PI X tg iter wi) (ok : BlkOk X.N X.env.scope scope own) (B : Blk3 X tg elt ifs scope g tt te) (hfold : ∀ x, foldedSetIterable iter X.env x = pure x := by intro _; rfl) :
    PE X (.SetComp elt [⟨tg, iter, ifs, 0⟩] scope pos) (tScI X.w wi g tt te (own.map (·.2))) := by
  refine ⟨fun pins s σ H Q I h => ?_⟩
  rw [PpSet.eval_SetComp]
  refine scI_core hc hN I hi ok B hfold h fun D L u m G I' q ns f => ⟨m, ns, fun h'' sb => ?_⟩
  obtain ⟨f0, f1, f2, f3, f4, f5⟩ := f
  exact ⟨.ref D, G, I'.turned (t' := u.toks) (fun b o hb e => (sb.2 b hb).trans e) f0 f1 f3 f4 f5, rfl, q⟩
end
end L2
namespace L2
open PySem PySem.Spec PyProof.Rows
section
variable {X : Cx}
/-- len of a set of ints -/
def rLenSI (w : World) : List V → Hp → VK → Prop := fun xs H Q => ∃ (a : Addr) (S : Int → Bool) (n : Nat), xs = [V.ref a] ∧ H a = some (SetO w a S n) ∧ Q (.int n) H
theorem cr_lenSI : CallR X (.builtin "len") (rLenSI X.w) := by
  intro pins s σ H xs us Q I r h
  obtain ⟨a, S, n, rfl, ha, q⟩ := h
  cases r with
  | cons r1 r2 =>
    cases r2
    cases r1
    obtain ⟨o, es, ep, t, ho, hex, hd, _, _, _, hlt, hf, hn, _, _⟩ := setO_get I ha
    have hb : es.size < 2 ^ 62 := Nat.lt_of_lt_of_le hlt (by decide)
    exact PySem.call_len_set ho hex hd hf (by omega) ⟨.int n, H, I.tok _, ⟨_, by rw [hn]⟩, q⟩
/-- the numbers of a list, each once -/
def onceI : List Int → List Int
  | [] => []
  | x :: r => if x ∈ onceI r then onceI r else x :: onceI r
theorem mem_once {x : Int} : ∀ {l : List Int}, x ∈ onceI l ↔ x ∈ l
  | [] => Iff.rfl
  | y :: r => by
    have ih := mem_once (x := x) (l := r)
    unfold onceI
    by_cases h : y ∈ onceI r
    · rw [if_pos h, ih, List.mem_cons]
      refine ⟨.inr, fun q => q.elim (fun e => ?_) id⟩
      subst e
      exact mem_once.mp h
    · rw [if_neg h, List.mem_cons, List.mem_cons, ih]
theorem once_le : ∀ l : List Int, (onceI l).length ≤ l.length
  | [] => Nat.le_refl _
  | y :: r => by
    have ih := once_le r
    unfold onceI
    by_cases h : y ∈ onceI r
    · rw [if_pos h, List.length_cons]; omega
    · rw [if_neg h, List.length_cons, List.length_cons]; omega
theorem once_all : ∀ {l : List Int}, (onceI l).length = l.length ↔ l.Nodup
  | [] => ⟨fun _ => .nil, fun _ => rfl⟩
  | y :: r => by
    have ih := once_all (l := r)
    have le := once_le r
    unfold onceI
    rw [List.nodup_cons]
    by_cases h : y ∈ onceI r
    · rw [if_pos h, List.length_cons]
      exact ⟨fun e => by omega, fun e => absurd (mem_once.mp h) e.1⟩
    · rw [if_neg h, List.length_cons, List.length_cons]
      exact ⟨fun e => ⟨fun q => h (mem_once.mpr q), ih.mp (by omega)⟩, fun e => by rw [ih.mpr e.2]⟩
end
end L2
namespace L2
open PySem PySem.Spec PyProof.Rows
/-- a set comprehension over a walk: Pv by the turn and the heap -/
theorem sc_it {J : It} {n : Nat} {G : Hp → Prop} {Y : Nat → Hp → V → Hp → Prop} (wk : Walk J n G Y) {w : World} {D : Addr} {g : TG} {tt : TT} {te : TE} {vs : List Nat} {σ : St} {H1 : Hp} {Qd : Hp → Prop} (Pv : Nat → Hp → Prop)
    (begins : Pv 0 (upd H1 D (SetO w D (fun _ => false) 0))) (stands : ∀ i H, i ≤ n → Pv i H → G H) (turns : ∀ i x H H', i < n → Pv i H → Y i H x H' → OneTurn w D g tt te vs σ (Pv (i + 1)) x H') (ends : ∀ H, Pv n H → Qd H) : SetWalk w J D g tt te vs σ H1 Qd := by
  refine ⟨fun i m H => i ≤ n ∧ m = n - i ∧ Pv i H, ⟨n, Nat.zero_le _, rfl, begins⟩, ?_⟩
  rintro i m H ⟨hi, rfl, p⟩
  rcases Nat.lt_or_eq_of_le hi with lt | rfl
  · exact .inr ⟨wk.goes i H lt (stands i H hi p), Pv (i + 1), fun H' p' => ⟨n - (i + 1), by omega, lt, rfl, p'⟩, fun x H' y => turns i x H H' lt p (wk.yields i H x H' lt (stands i H hi p) y)⟩
  · exact .inl ⟨wk.stops H (stands i H hi p), ends H p⟩
end L2

namespace RK
open PySem L2
/-! ### integers, walkers, dicts of something -/
theorem in_names : ∀ {zs : List Str} {z : Str}, inV (.str z) (zs.map V.str) = decide (z ∈ zs)
  | [], z => rfl
  | y :: r, z => by
    have ih := in_names (zs := r) (z := z)
    unfold inV at ih ⊢
    rw [List.map_cons, List.any_cons, ih]
    have e1 : eqV (V.str y) (V.str z) = decide (z = y) := by
      show (y == z) = _
      rw [beq_dec]
      by_cases e : y = z
      · subst e; rfl
      · rw [decide_eq_false e, decide_eq_false (fun q => e q.symm)]
    rw [e1]
    simp
theorem flat_names (zs : List Str) : (zs.map V.str).all flatV = true := by
  rw [List.all_map, List.all_eq_true]
  exact fun _ _ => rfl
def Kd.isInt : Kd → Bool
  | .int => true | _ => false
theorem kit_int {K : PySem.W.Frag} (k : Kd) : PySem.W.kitOne K (.type k.nm) (.type "int") = some (k.isInt || k.isBool) := by cases k <;> exact kit_ty (by decide +kernel)
def spIsInt (K : PySem.W.Frag) : Sp := fun vs H Q _ => ∃ v k, vs = [v] ∧ Th K H v k ∧ ∀ H', Same H H' → Q (.bl k.isInt) H'
/-- a walker among names -/
def walkB (zs : List Str) : V → Bool
  | .str z => decide (z ∈ zs)
  | _ => false
theorem Th.no_walk {K : PySem.W.Frag} {H : Hp} {v : V} {k : Kd} {zs : List Str} (h : Th K H v k) (e : k.isStr = false) : walkB zs v = false := by
  cases h <;> first | rfl | cases e
def spIsWalker (K : PySem.W.Frag) : Sp := fun vs H Q _ => ∃ (n : Addr) (zs : List Str) (v : V) (k : Kd), vs = [.ref n, v] ∧ H n = some (.lst (zs.map V.str)) ∧ Th K H v k ∧ ∀ H', Same H H' → Q (.bl (walkB zs v)) H'
/-- an integer by its kind -/
def intB : V → Bool
  | .int _ => true
  | _ => false
theorem Th.int_b {K : PySem.W.Frag} {H : Hp} {v : V} {k : Kd} (h : Th K H v k) : k.isInt = intB v := by
  cases h <;> rfl
/-- a dict from just all the names to integers -/
def dictB (zs : List Str) (kvs : List (Key × V)) : Bool := decide (kvs.length = zs.length) && zs.all fun z => match valV kvs (Sum.inr z : Key) with
  | some v => intB v
  | none => false
def spDictOf (K : PySem.W.Frag) (fI : Addr) : Sp := fun vs H Q _ => ∃ (n : Addr) (zs : List Str) (v : V) (k : Kd), vs = [.ref n, v, .ref fI] ∧ H n = some (.lst (zs.map V.str)) ∧ zs.length ≤ 1000 ∧ Th K H v k ∧
  (k.isDict = false → ∀ H', Same H H' → Q (.bl false) H') ∧
  (k.isDict = true → ∃ d kvs, v = .ref d ∧ H d = some (.dK kvs) ∧ (∀ kv ∈ kvs, ∃ kx, Th K H kv.2 kx) ∧ ∀ H', Same H H' → Q (.bl (dictB zs kvs)) H')
theorem val_mem {kvs : List (Key × V)} {k : Key} {v : V} (h : valV kvs k = some v) : ∃ kv ∈ kvs, kv.2 = v := by
  unfold valV at h
  cases q : kvs.find? fun kv => decide (kv.1 = k) with
  | none => rw [q] at h; cases h
  | some kv =>
    rw [q] at h
    cases h
    exact ⟨kv, List.mem_of_find?_eq_some q, rfl⟩
section
variable {P : Program} {w : World} {K : PySem.W.Frag} {mg : Str → Option Value} {base : Heap}
theorem scIsInt : FnScope ["thing"] ["thing"] (defScope sIsInt) := ⟨rfl, rfl, rfl, by decide +kernel, rfl, by decide +kernel, by decide +kernel⟩
theorem ok_isInt {f : Addr} {fd : FuncData} (F : Fun K "is_integer" "is_integer" sIsInt f fd) (B : B0 K mg) : FnOk P w K mg base CX0 1 f fd ["thing"] (spIsInt K) := by
  refine F.ok scIsInt (fun vs H Q E h => ?_) (fun cdv A outer s H vs Q E hr h => ?_)
  · obtain ⟨v, k, rfl, _⟩ := h
    rfl
  · obtain ⟨v, k, rfl, ht, q⟩ := h
    refine ⟨_, pss_one (ps_ret (pe_and (pe_callB call_isiZ (by rfl) B.isi (by decide +kernel) (pa_cons (pv 0) (pa_cons (pe_bltn (v := .ty "int") (by rfl) B.int (by decide +kernel) rfl) pa_nil)))
      (pe_one (pe_not (pe_callB call_isiZ (by rfl) B.isi (by decide +kernel) (pa_cons (pv 0) (pa_cons (pe_bltn (v := .ty "bool") (by rfl) B.bool (by decide +kernel) rfl) pa_nil))))))), ?_⟩
    refine ⟨_, rfl, v, .ty "int", _, .type "int", _, rfl, .ty _, ht.ty, kit_int k, _, rfl, ?_⟩
    have q' := q H (Same.refl H)
    cases hk : (k.isInt || k.isBool) with
    | false =>
      have e : k.isInt = false := by revert hk; cases k <;> decide
      rw [e] at q'
      exact iteF q'
    | true =>
      refine iteT ⟨_, rfl, v, .ty "bool", _, .type "bool", _, rfl, .ty _, ht.ty, kit_bool k, _, rfl, ?_⟩
      have e : (!k.isBool) = k.isInt := by revert hk; cases k <;> decide
      rw [e]
      exact q'
end
end RK

namespace RK
open PySem L2
theorem all_take {α : Type} {l : List α} {p : α → Bool} : (l.map p).all id = l.all p := by rw [List.all_map]; rfl
/-- is what stands at z in the dict right -/
def isRight (kvs : List (Key × V)) (z : Str) : Bool := match valV kvs (Sum.inr z : Key) with
  | some v => intB v
  | none => false
section
variable {P : Program} {w : World} {K : PySem.W.Frag} {mg : Str → Option Value} {base : Heap}
end
end RK

namespace RK
open PySem L2
/-! ### stands -/
def placeOf (kvs : List (Key × V)) (z : Str) : Int := match valV kvs (Sum.inr z : Key) with
  | some (.int i) => i
  | _ => 0
def placesOf (zs : List Str) (kvs : List (Key × V)) : List Int := zs.map (placeOf kvs)
def restsOf (zs : List Str) (kvs : List (Key × V)) : List Int := (placesOf zs kvs).map fun p => p % (zs.length : Int)
def standB (zs : List Str) (kvs : List (Key × V)) : Bool := dictB zs kvs && (decide ((placesOf zs kvs).sum = (zs.length : Int) * ((zs.length : Int) - 1) / 2) && decide ((restsOf zs kvs).Nodup))
theorem once_cons {x : Int} {r : List Int} : onceI (x :: r) = if x ∈ onceI r then onceI r else x :: onceI r := rfl
theorem List.nodup_reverse' {l : List Int} : l.reverse.Nodup ↔ l.Nodup := (List.reverse_perm l).nodup_iff
theorem dict_place {zs : List Str} {kvs : List (Key × V)} (h : dictB zs kvs = true) : ∀ z ∈ zs, valV kvs (Sum.inr z : Key) = some (.int (placeOf kvs z)) := fun z hz => by
  unfold dictB at h
  have q := List.all_eq_true.mp (Bool.and_eq_true_iff.mp h).2 z hz
  unfold placeOf
  cases e : valV kvs (Sum.inr z : Key) with
  | none => rw [e] at q; cases q
  | some v =>
    rw [e] at q
    cases v <;> first | rfl | cases q
def spStanding (K : PySem.W.Frag) : Sp := fun vs H Q _ => ∃ (n : Addr) (zs : List Str) (v : V) (k : Kd), vs = [.ref n, v] ∧ H n = some (.lst (zs.map V.str)) ∧ 0 < zs.length ∧ zs.length ≤ 1000 ∧ Th K H v k ∧
  (k.isDict = false → ∀ H', Same H H' → Q (.bl false) H') ∧
  (k.isDict = true → ∃ d kvs, v = .ref d ∧ H d = some (.dK kvs) ∧ (∀ kv ∈ kvs, ∃ kx, Th K H kv.2 kx) ∧ ∀ H', Same H H' → Q (.bl (standB zs kvs)) H')
section
variable {P : Program} {w : World} {K : PySem.W.Frag} {mg : Str → Option Value} {base : Heap}
end
end RK

namespace RK
open PySem L2
/-! ### what refuses -/
/-- an error class with one attribute -/
structure ErrAt (P : Program) (K : PySem.W.Frag) (mg : Str → Option Value) (nm fld : Str) (C f : Addr) : Prop where
  g : mg nm = some (.ref C)
  x : PySem.XW.XTxt P K mg fld C f
/-- a path or a thing that is none -/
def spWalkersOf (K : PySem.W.Frag) (C CP : Addr) : Sp := fun vs H Q E => ∃ v, vs = [v] ∧
  ((∃ k, Th K H v k ∧ ∀ d H', Same H H' → H' d = some (.xd [("thing", v)]) → E (.ref CP) (some d) H') ∨
   ∃ p t zs, v = .ref p ∧ PathAt C H p t zs ∧ ∀ l, H l = none → Q (.ref l) (upd H l (.lst (zs.map V.str))))
/-- names, and a thing that is a stand or none -/
def spNeedSt (K : PySem.W.Frag) (CS : Addr) : Sp := fun vs H Q E => ∃ (n : Addr) (zs : List Str) (v : V) (k : Kd), vs = [.ref n, v] ∧ H n = some (.lst (zs.map V.str)) ∧ 0 < zs.length ∧ zs.length ≤ 1000 ∧ Th K H v k ∧
  (k.isDict = false → ∀ d H', Same H H' → H' d = some (.xd [("stand", v)]) → E (.ref CS) (some d) H') ∧
  (k.isDict = true → ∃ dd kvs, v = .ref dd ∧ H dd = some (.dK kvs) ∧ (∀ kv ∈ kvs, ∃ kx, Th K H kv.2 kx) ∧
    (standB zs kvs = false → ∀ d H', Same H H' → H' d = some (.xd [("stand", v)]) → E (.ref CS) (some d) H') ∧ (standB zs kvs = true → ∀ H', Same H H' → Q .non H'))
def spNeedWa (K : PySem.W.Frag) (CW : Addr) : Sp := fun vs H Q E => ∃ (n : Addr) (zs : List Str) (v : V) (k : Kd), vs = [.ref n, v] ∧ H n = some (.lst (zs.map V.str)) ∧ Th K H v k ∧
  (walkB zs v = false → ∀ d H', Same H H' → H' d = some (.xd [("walker", v)]) → E (.ref CW) (some d) H') ∧ (walkB zs v = true → ∀ H', Same H H' → Q .non H')
section
variable {P : Program} {w : World} {K : PySem.W.Frag} {mg : Str → Option Value} {base : Heap} {C CB fB fE CP fP CS fS CW fW : Addr}
theorem scWalkersOf : FnScope ["path"] ["path"] (defScope sWalkersOf) := ⟨rfl, rfl, rfl, by decide +kernel, rfl, by decide +kernel, by decide +kernel⟩
theorem ok_walkersOf {f fw : Addr} {fd fdw : FuncData} (F : Fun K "walkers_of" "walkers_of" sWalkersOf f fd) (B : B0 K mg) (T : PT0 P K mg C CB fB) (T1 : PT1 K C fE) (EP : ErrAt P K mg "BadPath" "thing" CP fP)
    (FW : Fun K "walkers" "Path.walkers" sWalkers fw fdw) (bw : Binds K fdw ["self"] []) (mw : Meth K C "walkers" fw) : FnOk P w K mg base (L2.CX P w) 2 f fd ["path"] (spWalkersOf K C CP) := by
  have GW : FnOk P w K mg base CX0 1 fw fdw ["self"] (spWalkers C) := ok_walkers FW B T
  refine F.okX scWalkersOf (fun vs H Q E h => ?_) (fun cdv A outer s H vs Q E hr h => ?_)
  · obtain ⟨v, rfl, _⟩ := h
    rfl
  · obtain ⟨v, rfl, h⟩ := h
    refine ⟨_, pss_cons (ps_if (pt_not (pt_val (pe_callB call_isiZ (by rfl) B.isi (by decide +kernel) (pa_cons (pv 0) (pa_cons (pe_glob (v := .ref C) (by rfl) T.mgC rfl) pa_nil))))) (pss_one (ps_raiseX rfl EP.x EP.g hr (takes_of rfl rfl rfl rfl) (by exact (pa_cons (pv 0) pa_nil)))) pss_nil)
      (pss_one (ps_ret (pe_meth0 (pv 0) T.cl mw GW hr bw .nil pass0))), ?_⟩
    rcases h with ⟨k, ht, kbad⟩ | ⟨p, t, zs, rfl, hp, kgood⟩
    · refine ⟨_, rfl, v, .ref C, _, .ref C, false, rfl, .own C, ht.ty, kit_no T1 k, false, rfl, iteT ?_⟩
      exact ⟨_, rfl, _, rfl, fun d hd => kbad d _ (same_upd hd) upd_same⟩
    · refine ⟨_, rfl, .ref p, .ref C, _, .ref C, true, rfl, .own C, hp.ty T T1, kit_yes, true, rfl, iteF ?_⟩
      obtain ⟨dy, ho⟩ := hp.ob
      exact ⟨_, rfl, p, dy, _, rfl, ho, fNames_no t (by decide +kernel), p, t, zs, rfl, hp, fun l hl => kgood l hl⟩
end
end RK

namespace L2
open PySem PySem.Spec PyProof.Rows
abbrev DTurn (g : TG) (tt : TT) (tk tv : TE) (vs : List Nat) (σ : St) (D : Addr) (Nx : Hp → Prop) (x : V) (G : Hp) : Prop :=
  g x (wipe σ vs) G fun ρ G1 => wipe ρ vs = wipe σ vs ∧ tt ρ G1 fun b G2 => if b = true then tk ρ G2 fun y G3 => tv ρ G3 fun z G4 => ∃ kvs k, y = kV k ∧ G4 D = some (.dK kvs) ∧ kvs.length < sizeLine ∧ Nx (upd G4 D (.dK (putK kvs k z))) else Nx G2
/-- a dict comprehension over a walk -/
theorem dc_it {J : It} {n : Nat} {G : Hp → Prop} {Y : Nat → Hp → V → Hp → Prop} (wk : Walk J n G Y) {D : Addr} {g : TG} {tt : TT} {tk tv : TE} {vs : List Nat} {σ : St} {H1 : Hp} {Qd : Hp → Prop} (Pv : Nat → Hp → Prop)
    (begins : Pv 0 (upd H1 D (.dK []))) (stands : ∀ i H, i ≤ n → Pv i H → G H) (turns : ∀ i x H H', i < n → Pv i H → Y i H x H' → DTurn g tt tk tv vs σ D (Pv (i + 1)) x H') (ends : ∀ H, Pv n H → Qd H) :
    ∃ W : Nat → Nat → Hp → Prop, (∃ m, W 0 m (upd H1 D (.dK []))) ∧ ∀ i m H, W i m H →
      (J.stop i H ∧ Qd H) ∨ (J.go i H ∧ ∃ Nx : Hp → Prop, (∀ H', Nx H' → ∃ m', m' < m ∧ W (i + 1) m' H') ∧ ∀ x H', J.yld i H x H' → DTurn g tt tk tv vs σ D Nx x H') := by
  refine ⟨fun i m H => i ≤ n ∧ m = n - i ∧ Pv i H, ⟨n, Nat.zero_le _, rfl, begins⟩, ?_⟩
  rintro i m H ⟨hi, rfl, p⟩
  rcases Nat.lt_or_eq_of_le hi with lt | rfl
  · exact .inr ⟨wk.goes i H lt (stands i H hi p), Pv (i + 1), fun H' p' => ⟨n - (i + 1), by omega, lt, rfl, p'⟩, fun x H' y => turns i x H H' lt p (wk.yields i H x H' lt (stands i H hi p) y)⟩
  · exact .inl ⟨wk.stops H (stands i H hi p), ends H p⟩
end L2
namespace RK
open PySem L2
/-! ### numbers below n, each once -/
theorem nodup_le : ∀ (n : Nat) (l : List Int), l.Nodup → (∀ x ∈ l, 0 ≤ x ∧ x < (n : Int)) → l.length ≤ n
  | 0, l, _, hb => by
    cases l with
    | nil => exact Nat.le_refl _
    | cons x r => have := hb x List.mem_cons_self; omega
  | n + 1, l, hn, hb => by
    have ih := nodup_le n (l.filter fun x => decide (x ≠ (n : Int))) (hn.sublist List.filter_sublist) (fun x hx => by
      rw [List.mem_filter] at hx
      have := hb x hx.1
      have h2 : x ≠ (n : Int) := of_decide_eq_true hx.2
      omega)
    have hc : l.length = (l.filter fun x => decide (x ≠ (n : Int))).length + (l.filter fun x => !decide (x ≠ (n : Int))).length := by
      clear ih hn hb
      induction l with
      | nil => rfl
      | cons y r ihr =>
        rw [List.filter_cons, List.filter_cons]
        by_cases h : y = (n : Int)
        · rw [if_neg (by simp [h]), if_pos (by simp [h]), List.length_cons, List.length_cons]; omega
        · rw [if_pos (by simp [h]), if_neg (by simp [h]), List.length_cons, List.length_cons]; omega
    have h1 : (l.filter fun x => !decide (x ≠ (n : Int))).length ≤ 1 := by
      have hs : (l.filter fun x => !decide (x ≠ (n : Int))).Nodup := hn.sublist List.filter_sublist
      have he : ∀ x ∈ (l.filter fun x => !decide (x ≠ (n : Int))), x = (n : Int) := fun x hx => by
        rw [List.mem_filter] at hx
        simpa using hx.2
      revert hs he
      generalize (l.filter fun x => !decide (x ≠ (n : Int))) = m
      intro hs he
      match m, hs, he with
      | [], _, _ => exact Nat.zero_le _
      | [x], _, _ => exact Nat.le_refl _
      | x :: y :: r, hs, he =>
        have e1 := he x List.mem_cons_self
        have e2 := he y (List.mem_cons_of_mem _ List.mem_cons_self)
        rw [List.nodup_cons] at hs
        exact absurd (by rw [e1, e2]; exact List.mem_cons_self) hs.1
    omega
theorem pigeon {n : Nat} {l : List Int} (hn : l.Nodup) (hb : ∀ x ∈ l, 0 ≤ x ∧ x < (n : Int)) (hl : l.length = n) {r : Int} (h0 : 0 ≤ r) (h1 : r < (n : Int)) : r ∈ l := by
  refine Classical.byContradiction fun h => ?_
  have := nodup_le n (r :: l) (List.nodup_cons.mpr ⟨h, hn⟩) (fun x hx => by
    rcases List.mem_cons.mp hx with rfl | hx
    · exact ⟨h0, h1⟩
    · exact hb x hx)
  rw [List.length_cons] at this
  omega
/-! ### who is right ahead -/
def nextOf (zs : List Str) (kvs : List (Key × V)) (z : Str) : Option Str := zs.find? fun y => decide (placeOf kvs y % (zs.length : Int) = (placeOf kvs z + 1) % (zs.length : Int))
theorem next_is {zs : List Str} {kvs : List (Key × V)} (h : standB zs kvs = true) (h0 : 0 < zs.length) (z : Str) : ∃ y, nextOf zs kvs z = some y ∧ y ∈ zs ∧ placeOf kvs y % (zs.length : Int) = (placeOf kvs z + 1) % (zs.length : Int) := by
  have hpos : (0 : Int) < (zs.length : Nat) := by omega
  have hnd : (restsOf zs kvs).Nodup := of_decide_eq_true (Bool.and_eq_true_iff.mp (Bool.and_eq_true_iff.mp h).2).2
  have hlen : (restsOf zs kvs).length = zs.length := by unfold restsOf placesOf; rw [List.length_map, List.length_map]
  have hm : (placeOf kvs z + 1) % (zs.length : Int) ∈ restsOf zs kvs := pigeon hnd (fun x hx => by
    unfold restsOf at hx
    obtain ⟨p, _, rfl⟩ := List.mem_map.mp hx
    exact ⟨Int.emod_nonneg _ (by omega), Int.emod_lt_of_pos _ hpos⟩) hlen (Int.emod_nonneg _ (by omega)) (Int.emod_lt_of_pos _ hpos)
  unfold restsOf placesOf at hm
  rw [List.map_map] at hm
  obtain ⟨y, hy, e⟩ := List.mem_map.mp hm
  cases q : nextOf zs kvs z with
  | none =>
    have := List.find?_eq_none.mp q y hy
    exact absurd (decide_eq_true e) this
  | some u =>
    have q2 := q
    unfold nextOf at q2
    have q3 := List.find?_some (p := fun y => decide (placeOf kvs y % (zs.length : Int) = (placeOf kvs z + 1) % (zs.length : Int))) q2
    exact ⟨u, rfl, List.mem_of_find?_eq_some q2, of_decide_eq_true q3⟩
theorem val_rests {g : Str → Int} {r : Int} : ∀ {zs : List Str}, valV (zs.map fun z => ((Sum.inl (g z) : Key), V.str z)) (Sum.inl r : Key) = (zs.find? fun y => decide (g y = r)).map V.str
  | [] => rfl
  | z :: t => by
    rw [List.map_cons, List.find?_cons]
    by_cases h : g z = r
    · rw [valV_pos (by rw [h]), decide_eq_true h]
      rfl
    · rw [valV_neg (fun e => h (Sum.inl.inj e)), decide_eq_false h]
      exact val_rests
theorem put_new {kvs : List (Key × V)} {k : Key} {v : V} (h : ∀ kv ∈ kvs, kv.1 ≠ k) : putK kvs k v = kvs ++ [(k, v)] := by
  unfold putK
  rw [if_neg]
  intro q
  obtain ⟨kv, hkv, e⟩ := List.any_eq_true.mp q
  exact h kv hkv (of_decide_eq_true e)
theorem nodup_take {α : Type} {l : List α} {i : Nat} {x : α} (hn : l.Nodup) (h : l[i]? = some x) : x ∉ l.take i := by
  have e := take_more h
  have hs : (l.take (i + 1)).Nodup := hn.sublist (List.take_sublist _ _)
  rw [e] at hs
  have := (List.nodup_append.mp hs).2.2
  exact fun hm => this x hm x List.mem_cons_self rfl
end RK

namespace RK
open PySem L2
/-! ### first places, who is ahead -/
def firstKv (zs : List Str) : List (Key × V) := zs.zipIdx.map fun p => ((Sum.inr p.1 : Key), V.int (p.2 : Nat))
theorem first_more {l : List Str} {x : Str} : firstKv (l ++ [x]) = firstKv l ++ [((Sum.inr x : Key), V.int (l.length : Nat))] := by
  unfold firstKv
  rw [List.zipIdx_append, List.map_append]
  simp
theorem first_keys {l : List Str} : (firstKv l).map (·.1) = l.map fun z => (Sum.inr z : Key) := by
  unfold firstKv
  rw [List.map_map]
  have e : ((fun x => x.1) ∘ fun (p : Str × Nat) => ((Sum.inr p.1 : Key), V.int (p.2 : Nat))) = (fun z => (Sum.inr z : Key)) ∘ Prod.fst := rfl
  rw [e, ← List.map_map, List.zipIdx_map_fst]
theorem no_key {l : List Str} {x : Str} {kvs : List (Key × V)} (hk : kvs.map (·.1) = l.map fun z => (Sum.inr z : Key)) (h : x ∉ l) : ∀ kv ∈ kvs, kv.1 ≠ (Sum.inr x : Key) := fun kv hkv e => by
  have hm : kv.1 ∈ kvs.map (·.1) := List.mem_map_of_mem hkv
  rw [hk, e] at hm
  obtain ⟨z, hz, e2⟩ := List.mem_map.mp hm
  exact h (Sum.inr.inj e2 ▸ hz)
theorem name_at {zs : List Str} {i : Nat} {x : V} (hx : (zs.map V.str)[i]? = some x) : ∃ z, zs[i]? = some z ∧ z ∈ zs ∧ x = .str z := by
  rw [List.getElem?_map] at hx
  cases qz : zs[i]? with
  | none => rw [qz] at hx; cases hx
  | some z => rw [qz] at hx; cases hx; exact ⟨z, rfl, List.mem_of_getElem? qz, rfl⟩
def spFirstPl (_K : PySem.W.Frag) : Sp := fun vs H Q _ => ∃ (n : Addr) (zs : List Str), vs = [.ref n] ∧ H n = some (.lst (zs.map V.str)) ∧ zs.Nodup ∧ zs.length ≤ 1000 ∧ ∀ d H', H d = none → H' d = some (.dK (firstKv zs)) → Same H H' → Q (.ref d) H'
/-- the dict that tells who is ahead -/
def aheadKv (zs : List Str) (kvs : List (Key × V)) : List (Key × V) := zs.map fun z => ((Sum.inr z : Key), V.str ((nextOf zs kvs z).getD z))
def spAheadOf (_K : PySem.W.Frag) : Sp := fun vs H Q _ => ∃ (n p : Addr) (zs : List Str) (kvs : List (Key × V)), vs = [.ref n, .ref p] ∧ H n = some (.lst (zs.map V.str)) ∧ H p = some (.dK kvs) ∧ zs.Nodup ∧ 0 < zs.length ∧ zs.length ≤ 1000 ∧ standB zs kvs = true ∧
  ∀ d H', H' d = some (.dK (aheadKv zs kvs)) → Same H H' → Q (.ref d) H'
section
variable {P : Program} {w : World} {K : PySem.W.Frag} {mg : Str → Option Value} {base : Heap}
end
end RK

namespace RK
open PySem L2
/-! ### what the program answers of a path and a stand -/
def spFirst (K : PySem.W.Frag) (C CP : Addr) : Sp := fun vs H Q E => ∃ v, vs = [v] ∧
  ((∃ k, Th K H v k ∧ ∀ d H', Same H H' → H' d = some (.xd [("thing", v)]) → E (.ref CP) (some d) H') ∨
   ∃ p t zs, v = .ref p ∧ PathAt C H p t zs ∧ zs.Nodup ∧ zs.length ≤ 1000 ∧ ∀ d H', H d = none → H' d = some (.dK (firstKv zs)) → Same H H' → Q (.ref d) H')
def spIsStand (K : PySem.W.Frag) (C CP : Addr) : Sp := fun vs H Q E => ∃ v u, vs = [v, u] ∧
  ((∃ k, Th K H v k ∧ ∀ d H', Same H H' → H' d = some (.xd [("thing", v)]) → E (.ref CP) (some d) H') ∨
   ∃ p t zs ku, v = .ref p ∧ PathAt C H p t zs ∧ 0 < zs.length ∧ zs.length ≤ 1000 ∧ Th K H u ku ∧ (ku.isDict = false → ∀ H', Same H H' → Q (.bl false) H') ∧
     (ku.isDict = true → ∃ d kvs, u = .ref d ∧ H d = some (.dK kvs) ∧ (∀ kv ∈ kvs, ∃ kx, Th K H kv.2 kx) ∧ ∀ H', Same H H' → Q (.bl (standB zs kvs)) H'))
def spAsk (K : PySem.W.Frag) (C CP CS CW : Addr) (ans : List Str → List (Key × V) → Str → VK → Hp → Prop) : Sp := fun vs H Q E => ∃ v u x, vs = [v, u, x] ∧
  ((∃ k, Th K H v k ∧ ∀ d H', Same H H' → H' d = some (.xd [("thing", v)]) → E (.ref CP) (some d) H') ∨
   ∃ p t zs ku, v = .ref p ∧ PathAt C H p t zs ∧ zs.Nodup ∧ 0 < zs.length ∧ zs.length ≤ 1000 ∧ Th K H u ku ∧
     (ku.isDict = false → ∀ d H', Same H H' → H' d = some (.xd [("stand", u)]) → E (.ref CS) (some d) H') ∧
     (ku.isDict = true → ∃ dd kvs, u = .ref dd ∧ H dd = some (.dK kvs) ∧ (∀ kv ∈ kvs, ∃ kx, Th K H kv.2 kx) ∧
       (standB zs kvs = false → ∀ d H', Same H H' → H' d = some (.xd [("stand", u)]) → E (.ref CS) (some d) H') ∧
       (standB zs kvs = true → ∃ kx, Th K H x kx ∧ (walkB zs x = false → ∀ d H', Same H H' → H' d = some (.xd [("walker", x)]) → E (.ref CW) (some d) H') ∧
         (walkB zs x = true → ∀ z H', x = .str z → z ∈ zs → Same H H' → ans zs kvs z Q H'))))
def ansRight : List Str → List (Key × V) → Str → VK → Hp → Prop := fun zs kvs z Q H => ∀ H', Same H H' → Q (.str ((nextOf zs kvs z).getD z)) H'
theorem walk_str_of {zs : List Str} {x : V} (h : walkB zs x = true) : ∃ z, x = .str z ∧ z ∈ zs := by
  cases x <;> first | exact ⟨_, rfl, of_decide_eq_true h⟩ | cases h
theorem val_ahead {zs : List Str} {kvs : List (Key × V)} {z : Str} (h : z ∈ zs) : valV (aheadKv zs kvs) (Sum.inr z : Key) = some (.str ((nextOf zs kvs z).getD z)) := by
  unfold aheadKv
  generalize hg : (fun z => (nextOf zs kvs z).getD z) = g
  have key : ∀ l : List Str, z ∈ l → valV (l.map fun z => ((Sum.inr z : Key), V.str (g z))) (Sum.inr z : Key) = some (.str (g z)) := by
    intro l
    induction l with
    | nil => intro q; cases q
    | cons y r ih =>
      intro q
      rw [List.map_cons]
      by_cases e : y = z
      · subst e; rw [valV_pos rfl]
      · rw [valV_neg (fun t => e (Sum.inr.inj t))]
        exact ih ((List.mem_cons.mp q).resolve_left fun t => e t.symm)
  have := key zs h
  rw [← hg] at this
  exact this
section
variable {P : Program} {w : World} {K : PySem.W.Frag} {mg : Str → Option Value} {base : Heap} {C CP CS CW : Addr}
end
end RK

namespace RK
open PySem L2
/-! ### going round -/
def iterOf (zs : List Str) (kvs : List (Key × V)) (z : Str) : Nat → Str
  | 0 => z
  | i + 1 => (nextOf zs kvs (iterOf zs kvs z i)).getD (iterOf zs kvs z i)
def roundOf (zs : List Str) (kvs : List (Key × V)) (z : Str) (n : Nat) : List Str := (List.range n).map (iterOf zs kvs z)
theorem round_more {zs : List Str} {kvs : List (Key × V)} {z : Str} {n : Nat} : roundOf zs kvs z (n + 1) = roundOf zs kvs z n ++ [iterOf zs kvs z n] := by
  unfold roundOf
  rw [List.range_succ, List.map_append]
  rfl
theorem round_len {zs : List Str} {kvs : List (Key × V)} {z : Str} {n : Nat} : (roundOf zs kvs z n).length = n := by
  unfold roundOf
  rw [List.length_map, List.length_range]
theorem iter_mem {zs : List Str} {kvs : List (Key × V)} (h : standB zs kvs = true) (h0 : 0 < zs.length) {z : Str} (hz : z ∈ zs) : ∀ i, iterOf zs kvs z i ∈ zs
  | 0 => hz
  | i + 1 => by
    obtain ⟨y, e, hy, _⟩ := next_is h h0 (iterOf zs kvs z i)
    unfold iterOf
    rw [e]
    exact hy
theorem iter_rest {zs : List Str} {kvs : List (Key × V)} (h : standB zs kvs = true) (h0 : 0 < zs.length) {z : Str} : ∀ i : Nat, placeOf kvs (iterOf zs kvs z i) % (zs.length : Int) = (placeOf kvs z + (i : Int)) % (zs.length : Int)
  | 0 => by
    show placeOf kvs z % _ = _
    rw [show ((0 : Nat) : Int) = 0 from rfl, Int.add_zero]
  | i + 1 => by
    have ih := iter_rest h h0 (z := z) i
    obtain ⟨y, e, hy, hr⟩ := next_is h h0 (iterOf zs kvs z i)
    unfold iterOf
    rw [e]
    show placeOf kvs y % _ = _
    rw [hr, Int.add_emod, ih, ← Int.add_emod, Int.add_assoc]
    rfl
/-- of one rest there is one walker -/
theorem rest_inj {zs : List Str} {kvs : List (Key × V)} (h : standB zs kvs = true) {y z : Str} (hy : y ∈ zs) (hz : z ∈ zs) (e : placeOf kvs y % (zs.length : Int) = placeOf kvs z % (zs.length : Int)) : y = z := by
  have hnd : (restsOf zs kvs).Nodup := of_decide_eq_true (Bool.and_eq_true_iff.mp (Bool.and_eq_true_iff.mp h).2).2
  unfold restsOf placesOf at hnd
  rw [List.map_map] at hnd
  obtain ⟨i, hi, rfl⟩ := List.getElem_of_mem hy
  obtain ⟨j, hj, rfl⟩ := List.getElem_of_mem hz
  have hl : ∀ {k : Nat}, k < zs.length → k < (zs.map ((fun p => p % (zs.length : Int)) ∘ placeOf kvs)).length := fun hk => by rw [List.length_map]; exact hk
  have q := (List.getElem_inj (h₀ := hl hi) (h₁ := hl hj) hnd).mp (by rw [List.getElem_map, List.getElem_map]; exact e)
  subst q
  rfl
def ansGoing : List Str → List (Key × V) → Str → VK → Hp → Prop := fun zs kvs z Q H => ∀ l H', H l = none → H' l = some (.lst ((roundOf zs kvs z zs.length).map V.str)) → Same H H' → Q (.ref l) H'
def spRowFrom (K : PySem.W.Frag) : Sp := fun vs H Q E => ∃ l dd zs kvs z, vs = [.ref l, .ref dd, .str z] ∧ H l = some (.lst (zs.map V.str)) ∧ H dd = some (.dK kvs) ∧ zs.Nodup ∧ 0 < zs.length ∧ zs.length ≤ 1000 ∧ standB zs kvs = true ∧ z ∈ zs ∧
  ∀ r H', H r = none → H' r = some (.lst ((roundOf zs kvs z zs.length).map V.str)) → Same H H' → Q (.ref r) H'
section
variable {P : Program} {w : World} {K : PySem.W.Frag} {mg : Str → Option Value} {base : Heap} {C CP CS CW : Addr}
end
end RK

/-! comprehensions over zip of two lists or of two tuples -/
namespace L2
open PySem PySem.Spec PyProof.Rows RZ
theorem walk_zipT {K : PySem.W.Frag} {a b : Addr} {xs ys : List V} {n : Nat} (hn : n = min xs.length ys.length) : Walk (ItzT K a b) n (fun H => SqT K H a xs ∧ SqT K H b ys) (YPair (fun i => xs[i]?) (fun i => ys[i]?)) := by
  subst hn
  refine ⟨fun i _ hi q => ?_, fun _ q => ⟨xs, ys, q.1, q.2, ?_⟩, fun i H v H' _ q y => ?_⟩
  · obtain ⟨h1, h2⟩ : i < xs.length ∧ i < ys.length := by omega
    exact ⟨xs, ys, xs[i], ys[i], q.1, q.2, by simp [h1], by simp [h2]⟩
  · omega
  · obtain ⟨T, x, z, e1, e2, e3, e4, e5⟩ := y
    exact ⟨T, x, z, e1, e2, e3, e4 xs q.1, e5 ys q.2⟩
theorem lc_zipA {K : PySem.W.Frag} {a b : Addr} {xs ys : List V} {g : TG} {tt : TT} {te : TE} {vs : List Nat} {σ : St} {H : Hp} {Q : Addr → Hp → Prop} (hl : xs.length = ys.length)
    (hq : (SqL K H a xs ∧ SqL K H b ys) ∨ (SqT K H a xs ∧ SqT K H b ys)) (Pv : Addr → Nat → Hp → Prop) (h0 : ∀ D, H D = none → Pv D 0 (upd H D (.lst [])))
    (hk : ∀ D i H', H D = none → Pv D i H' → Same H H')
    (hs : ∀ D i x y T H', H D = none → xs[i]? = some x → ys[i]? = some y → Pv D i H' → H' T = none → g (.ref T) (wipe σ vs) (upd H' T (.tup [x, y])) fun σ2 H2 => wipe σ2 vs = wipe σ vs ∧ tt σ2 H2 fun b H3 =>
      if b = true then te σ2 H3 fun y H4 => ∃ acc, H4 D = some (.lst acc) ∧ acc.length < sizeLine ∧ Pv D (i + 1) (upd H4 D (.lst (acc ++ [y]))) else Pv D (i + 1) H3) (hd : ∀ D H', H D = none → Pv D xs.length H' → Q D H') :
    (SqL K H a xs ∧ SqL K H b ys ∧ ∀ D, H D = none → ∃ W : Nat → Nat → Hp → Prop, (∃ m, W 0 m (upd H D (.lst []))) ∧ ∀ i m H', W i m H' →
      ((Itz K a b).stop i H' ∧ Q D H') ∨ ((Itz K a b).go i H' ∧ ∃ Nx : Hp → Prop, (∀ H', Nx H' → ∃ m', m' < m ∧ W (i + 1) m' H') ∧ ∀ x H2, (Itz K a b).yld i H' x H2 → g x (wipe σ vs) H2 fun σ2 H2 => wipe σ2 vs = wipe σ vs ∧ tt σ2 H2 fun b H3 =>
        if b = true then te σ2 H3 fun y H4 => ∃ acc, H4 D = some (.lst acc) ∧ acc.length < sizeLine ∧ Nx (upd H4 D (.lst (acc ++ [y]))) else Nx H3)) ∨
    (SqT K H a xs ∧ SqT K H b ys ∧ ∀ D, H D = none → ∃ W : Nat → Nat → Hp → Prop, (∃ m, W 0 m (upd H D (.lst []))) ∧ ∀ i m H', W i m H' →
      ((ItzT K a b).stop i H' ∧ Q D H') ∨ ((ItzT K a b).go i H' ∧ ∃ Nx : Hp → Prop, (∀ H', Nx H' → ∃ m', m' < m ∧ W (i + 1) m' H') ∧ ∀ x H2, (ItzT K a b).yld i H' x H2 → g x (wipe σ vs) H2 fun σ2 H2 => wipe σ2 vs = wipe σ vs ∧ tt σ2 H2 fun b H3 =>
        if b = true then te σ2 H3 fun y H4 => ∃ acc, H4 D = some (.lst acc) ∧ acc.length < sizeLine ∧ Nx (upd H4 D (.lst (acc ++ [y]))) else Nx H3)) := by
  have keepT : ∀ {H' : Hp} {c : Addr} {zs : List V}, SqT K H c zs → Same H H' → SqT K H' c zs := fun {H' c zs} h e => by
    rcases h with (h | ⟨o, h⟩) | h
    · exact .inl (.inl (e _ _ h))
    · exact .inl (.inr ⟨o, e _ _ h⟩)
    · exact .inr h
  rcases hq with ⟨q1, q2⟩ | ⟨q1, q2⟩
  · refine .inl ⟨q1, q2, fun D hD => lc_it (Qd := fun H' => Q D H') (walk_zip (K := K) (a := a) (b := b) (xs := xs) (ys := ys) (n := xs.length) (by omega)) (Pv D) (h0 D hD) (fun i H' _ p => ⟨(hk D i H' hD p).seq q1, (hk D i H' hD p).seq q2⟩) ?_ (fun H' p => hd D H' hD p)⟩
    rintro i x H1 H2 hi p ⟨T, x1, y, rfl, hT, rfl, e1, e2⟩
    exact hs D i x1 y T H1 hD e1 e2 p hT
  · refine .inr ⟨q1, q2, fun D hD => lc_it (Qd := fun H' => Q D H') (walk_zipT (K := K) (a := a) (b := b) (xs := xs) (ys := ys) (n := xs.length) (by omega)) (Pv D) (h0 D hD) (fun i H' _ p => ⟨keepT q1 (hk D i H' hD p), keepT q2 (hk D i H' hD p)⟩) ?_ (fun H' p => hd D H' hD p)⟩
    rintro i x H1 H2 hi p ⟨T, x1, y, rfl, hT, rfl, e1, e2⟩
    exact hs D i x1 y T H1 hD e1 e2 p hT
end L2

namespace RK
open PySem L2 RZ
/-- two things that are told alike, to the depth n -/
theorem get_map {α : Type} {l : List α} {f : α → V} {i : Nat} {x : V} (h : (l.map f)[i]? = some x) : ∃ t, l[i]? = some t ∧ x = f t := by
  rw [List.getElem?_map] at h
  cases q : l[i]? with
  | none => rw [q] at h; cases h
  | some t => rw [q] at h; cases h; exact ⟨t, rfl, rfl⟩
theorem paired_get {α β : Type} {F : α → β → Prop} : ∀ {l : List α} {m : List β} {i : Nat} {a : α}, Paired F l m → l[i]? = some a → ∃ b, m[i]? = some b ∧ F a b
  | _, _, 0, _, .cons h _, e => by cases e; exact ⟨_, rfl, h⟩
  | _, _, i + 1, _, .cons _ t, e => paired_get (i := i) t e
def keyOk : Key → Prop
  | .inl _ => True
  | .inr z => z.length ≤ 1000
/-- alike, of the same kinds, down to depth n -/
inductive SameD (H : Hp) : Nat → V → V → Prop where
  | non {n : Nat} : SameD H n .non .non
  | int {n : Nat} (i : Int) : SameD H n (.int i) (.int i)
  | bl {n : Nat} (b : Bool) : SameD H n (.bl b) (.bl b)
  | str {n : Nat} {z : Str} (h : z.length ≤ 1000) : SameD H n (.str z) (.str z)
  | lst {n : Nat} {a b : Addr} {xs ys : List V} (ha : H a = some (.lst xs)) (hb : H b = some (.lst ys)) (hl : xs.length = ys.length) (h1 : xs.length ≤ 1000) (h : ∀ (i : Nat) (x y : V), xs[i]? = some x → ys[i]? = some y → SameD H n x y) : SameD H (n + 1) (.ref a) (.ref b)
  | tup {n : Nat} {a b : Addr} {xs ys : List V} (ha : H a = some (.tup xs)) (hb : H b = some (.tup ys)) (hl : xs.length = ys.length) (h1 : xs.length ≤ 1000) (h : ∀ (i : Nat) (x y : V), xs[i]? = some x → ys[i]? = some y → SameD H n x y) : SameD H (n + 1) (.ref a) (.ref b)
  | dict {n : Nat} {a b : Addr} {ks ls : List (Key × V)} (ha : H a = some (.dK ks)) (hb : H b = some (.dK ls)) (hl : ks.length = ls.length) (h1 : ks.length ≤ 1000) (hk : ∀ (i : Nat) (p q : Key × V), ks[i]? = some p → ls[i]? = some q → p.1 = q.1 ∧ keyOk p.1)
      (h : ∀ (i : Nat) (p q : Key × V), ks[i]? = some p → ls[i]? = some q → SameD H n p.2 q.2) : SameD H (n + 3) (.ref a) (.ref b)
theorem SameD.mono {H H' : Hp} (s : Same H H') : ∀ {n : Nat} {x y : V}, SameD H n x y → SameD H' n x y
  | _, _, _, .non => .non
  | _, _, _, .int i => .int i
  | _, _, _, .bl b => .bl b
  | _, _, _, .str h => .str h
  | _, _, _, .lst ha hb hl h1 h => .lst (s _ _ ha) (s _ _ hb) hl h1 fun i x y e1 e2 => SameD.mono s (h i x y e1 e2)
  | _, _, _, .tup ha hb hl h1 h => .tup (s _ _ ha) (s _ _ hb) hl h1 fun i x y e1 e2 => SameD.mono s (h i x y e1 e2)
  | _, _, _, .dict ha hb hl h1 hk h => .dict (s _ _ ha) (s _ _ hb) hl h1 hk fun i p q e1 e2 => SameD.mono s (h i p q e1 e2)
/-- both are of one kind -/
theorem SameD.kd {K : PySem.W.Frag} {H : Hp} {n : Nat} {x y : V} (h : SameD H n x y) : ∃ k, Th K H x k ∧ Th K H y k ∧ (k.isDict = true → k.isSeq = false) ∧ (k.isSeq = false → k.isDict = false → x = y ∧ scal x y = true) := by
  cases h with
  | non => exact ⟨.non, .non, .non, (fun q => nomatch q), fun _ _ => ⟨rfl, rfl⟩⟩
  | int i => exact ⟨.int, .int i, .int i, (fun q => nomatch q), fun _ _ => ⟨rfl, rfl⟩⟩
  | bl b => exact ⟨.bool, .bl b, .bl b, (fun q => nomatch q), fun _ _ => ⟨rfl, rfl⟩⟩
  | str h => exact ⟨.str, .str h, .str h, (fun q => nomatch q), fun _ _ => ⟨rfl, rfl⟩⟩
  | lst ha hb hl h1 h => exact ⟨.list, .lst ha, .lst hb, (fun q => nomatch q), fun q => nomatch q⟩
  | tup ha hb hl h1 h => exact ⟨.tup, .tup ha, .tup hb, (fun q => nomatch q), fun q => nomatch q⟩
  | dict ha hb hl h1 hk h => exact ⟨.dict, .dict ha, .dict hb, fun _ => rfl, fun _ q => nomatch q⟩
def spSame (n : Nat) : Sp := fun vs H Q _ => ∃ x y, vs = [x, y] ∧ SameD H n x y ∧ ∀ H', Same H H' → Q (.bl true) H'
theorem kit_seq3 {K : PySem.W.Frag} (k : Kd) : PySem.W.kitAny K (.type k.nm) [.type "dict", .type "list", .type "tuple"] = some (k.isDict || k.isSeq) := by
  cases k <;> first
    | exact kitAny_cons (b := true) (kit_ty (by decide +kernel)) (fun z => nomatch z) (fun _ => rfl)
    | exact kitAny_cons (b := false) (kit_ty (by decide +kernel)) (fun _ => kit_seq _) (fun z => nomatch z)
theorem kit_seq4 {K : PySem.W.Frag} (k : Kd) : PySem.W.kitAny K (.type k.nm) [.type "int", .type "list", .type "tuple", .type "dict"] = some ((k.isInt || k.isBool) || (k.isSeq || k.isDict)) := by
  have d : ∀ k : Kd, PySem.W.kitAny K (.type k.nm) [.type "dict"] = some k.isDict := fun k => by
    cases k <;> first
      | exact kitAny_cons (b := true) (kit_ty (by decide +kernel)) (fun z => nomatch z) (fun _ => rfl)
      | exact kitAny_cons (b := false) (kit_ty (by decide +kernel)) (fun _ => rfl) (fun z => nomatch z)
  have t : ∀ k : Kd, PySem.W.kitAny K (.type k.nm) [.type "list", .type "tuple", .type "dict"] = some (k.isSeq || k.isDict) := fun k => by
    cases k <;> first
      | exact kitAny_cons (b := true) (kit_ty (by decide +kernel)) (fun z => nomatch z) (fun _ => rfl)
      | exact kitAny_cons (b := false) (kit_ty (by decide +kernel)) (fun _ => kitAny_cons (b := true) (kit_ty (by decide +kernel)) (fun z => nomatch z) (fun _ => rfl)) (fun z => nomatch z)
      | exact kitAny_cons (b := false) (kit_ty (by decide +kernel)) (fun _ => kitAny_cons (b := false) (kit_ty (by decide +kernel)) (fun _ => d _) (fun z => nomatch z)) (fun z => nomatch z)
  cases k <;> first
    | exact kitAny_cons (b := true) (kit_ty (by decide +kernel)) (fun z => nomatch z) (fun _ => rfl)
    | exact kitAny_cons (b := false) (kit_ty (by decide +kernel)) (fun _ => t _) (fun z => nomatch z)
section
variable {P : Program} {w : World} {K : PySem.W.Frag} {mg : Str → Option Value} {base : Heap}
theorem scSame : FnScope ["found", "due", "x", "y"] ["found", "due"] (defScope sSame) := ⟨rfl, rfl, rfl, by decide +kernel, rfl, by decide +kernel, by decide +kernel⟩
theorem ok_same0 {f : Addr} {fd : FuncData} (F : Fun K "_law_same" "_law_same" sSame f fd) (B : B0 K mg) : FnOk P w K mg base CX0 1 f fd ["found", "due"] (spSame 0) := by
  refine F.ok scSame (fun vs H Q E h => ?_) (fun cdv A outer s H vs Q E hr h => ?_)
  · obtain ⟨x, y, rfl, _⟩ := h
    rfl
  · obtain ⟨x, y, rfl, hd, q⟩ := h
    refine ⟨_, pss_cons (ps_if (pt_val (pe_callB call_isiTZ (by rfl) B.isi (by decide +kernel) (pa_cons (pv 1) (pa_cons (pe_tup (pa_cons (pe_bltn (v := .ty "list") (by rfl) B.list (by decide +kernel) rfl) (pa_cons (pe_bltn (v := .ty "tuple") (by rfl) B.tuple (by decide +kernel) rfl) pa_nil))) pa_nil)))) pss_never pss_nil)
        (pss_cons (ps_if (pt_val (pe_callB call_isiZ (by rfl) B.isi (by decide +kernel) (pa_cons (pv 1) (pa_cons (pe_bltn (v := .ty "dict") (by rfl) B.dict (by decide +kernel) rfl) pa_nil)))) pss_never pss_nil)
        (pss_cons (ps_if (pt_val (pe_callB call_isiZ (by rfl) B.isi (by decide +kernel) (pa_cons (pv 1) (pa_cons (pe_bltn (v := .ty "int") (by rfl) B.int (by decide +kernel) rfl) pa_nil)))) (pss_one (ps_ret (pe_and (pe_callB call_isiZ (by rfl) B.isi (by decide +kernel) (pa_cons (pv 0) (pa_cons (pe_bltn (v := .ty "int") (by rfl) B.int (by decide +kernel) rfl) pa_nil))) (pe_and (pe_cmpR op_eq (pe_callB call_isiZ (by rfl) B.isi (by decide +kernel) (pa_cons (pv 0) (pa_cons (pe_bltn (v := .ty "bool") (by rfl) B.bool (by decide +kernel) rfl) pa_nil))) (pe_callB call_isiZ (by rfl) B.isi (by decide +kernel) (pa_cons (pv 1) (pa_cons (pe_bltn (v := .ty "bool") (by rfl) B.bool (by decide +kernel) rfl) pa_nil))) (nomark _)) (pe_one (pe_cmpR op_eq (pv 0) (pv 1) (nomark _))))))) pss_nil)
        (pss_one (ps_ret (pe_and (pe_not (pe_callB call_isiTZ (by rfl) B.isi (by decide +kernel) (pa_cons (pv 0) (pa_cons (pe_tup (pa_cons (pe_bltn (v := .ty "int") (by rfl) B.int (by decide +kernel) rfl) (pa_cons (pe_bltn (v := .ty "list") (by rfl) B.list (by decide +kernel) rfl) (pa_cons (pe_bltn (v := .ty "tuple") (by rfl) B.tuple (by decide +kernel) rfl) (pa_cons (pe_bltn (v := .ty "dict") (by rfl) B.dict (by decide +kernel) rfl) pa_nil))))) pa_nil)))) (pe_one (pe_cmpR op_eq (pv 0) (pv 1) (nomark _)))))))), ?_⟩
    obtain ⟨k, hx, hy, _, kleaf⟩ := hd.kd (K := K)
    have kseq : k.isSeq = false := by
      cases hd <;> cases hx <;> first | rfl | contradiction
    have kdict : k.isDict = false := by
      cases hd <;> cases hx <;> first | rfl | contradiction
    refine ⟨_, rfl, by show 2 ≤ sizeLine; decide, fun p hp => ?_⟩
    have s1 := same_upd (o := .tup [.ty "list", .ty "tuple"]) hp
    refine ⟨y, p, [.ty "list", .ty "tuple"], _, [.type "list", .type "tuple"], false, rfl, upd_same, .cons (.ty _) (.cons (.ty _) .nil), (hy.same s1).ty, kseq ▸ kit_seq k, false, rfl, iteF ?_⟩
    refine ⟨_, rfl, y, .ty "dict", _, .type "dict", false, rfl, .ty _, (hy.same s1).ty, kdict ▸ kit_dict k, false, rfl, iteF ?_⟩
    refine ⟨_, rfl, y, .ty "int", _, .type "int", _, rfl, .ty _, (hy.same s1).ty, kit_int k, _, rfl, ?_⟩
    have hleaf : x = y ∧ scal x y = true := kleaf kseq kdict
    have fin : ∀ {G : Hp}, Same H G → Q (.bl (decide (x = y))) G := fun s => by rw [decide_eq_true hleaf.1]; exact q _ s
    cases kint : (k.isInt || k.isBool) with
    | true =>
      refine iteT ⟨_, rfl, x, .ty "int", _, .type "int", _, rfl, .ty _, (hx.same s1).ty, kit_int k, _, rfl, ?_⟩
      rw [kint]
      refine iteT ⟨_, rfl, x, .ty "bool", _, .type "bool", _, rfl, .ty _, (hx.same s1).ty, kit_bool k, _, rfl, y, .ty "bool", _, .type "bool", _, rfl, .ty _, (hy.same s1).ty, kit_bool k, rfl, true, by rw [decide_eq_true rfl], iteT ?_⟩
      exact ⟨_, rfl, _, rfl, hleaf.2, fin s1⟩
    | false =>
      refine iteF ?_
      refine ⟨_, rfl, by show 4 ≤ sizeLine; decide, fun p2 hp2 => ?_⟩
      have s2 := s1.trans (same_upd (o := .tup [.ty "int", .ty "list", .ty "tuple", .ty "dict"]) hp2)
      refine ⟨x, p2, [.ty "int", .ty "list", .ty "tuple", .ty "dict"], _, [.type "int", .type "list", .type "tuple", .type "dict"], false, rfl, upd_same, .cons (.ty _) (.cons (.ty _) (.cons (.ty _) (.cons (.ty _) .nil))), (hx.same s2).ty, ?_, ?_⟩
      · rw [kit_seq4, kint, kdict, kseq]; rfl
      exact ⟨false, rfl, true, rfl, iteT ⟨_, rfl, _, rfl, hleaf.2, fin s2⟩⟩
theorem SameD.seq {H : Hp} {n : Nat} {x y : V} {k : Kd} (h : SameD H n x y) (hx : Th K H x k) (e : k.isSeq = true) : ∃ m a b xs ys, n = m + 1 ∧ x = .ref a ∧ y = .ref b ∧ xs.length = ys.length ∧ xs.length ≤ 1000 ∧ (∀ (i : Nat) (x y : V), xs[i]? = some x → ys[i]? = some y → SameD H m x y) ∧
    ((H a = some (.lst xs) ∧ H b = some (.lst ys) ∧ k.isList = true ∧ k.isTup = false) ∨ (H a = some (.tup xs) ∧ H b = some (.tup ys) ∧ k.isList = false ∧ k.isTup = true)) := by
  cases h with
  | non => cases hx; cases e
  | int i => cases hx; cases e
  | bl b => cases hx; cases e
  | str h => cases hx; cases e
  | lst ha hb hl h1 h =>
    cases hx with
    | lst q => exact ⟨_, _, _, _, _, rfl, rfl, rfl, hl, h1, h, .inl ⟨ha, hb, rfl, rfl⟩⟩
    | tup q => rw [ha] at q; cases q
    | dict q => cases e
    | fn q c => cases e
  | tup ha hb hl h1 h =>
    cases hx with
    | lst q => rw [ha] at q; cases q
    | tup q => exact ⟨_, _, _, _, _, rfl, rfl, rfl, hl, h1, h, .inr ⟨ha, hb, rfl, rfl⟩⟩
    | dict q => cases e
    | fn q c => cases e
  | dict ha hb hl h1 hk h =>
    cases hx with
    | lst q => rw [ha] at q; cases q
    | tup q => rw [ha] at q; cases q
    | dict q => cases e
    | fn q c => cases e
theorem SameD.dct {H : Hp} {n : Nat} {x y : V} {k : Kd} (h : SameD H n x y) (hx : Th K H x k) (e : k.isDict = true) : ∃ m a b ks ls, n = m + 3 ∧ x = .ref a ∧ y = .ref b ∧ H a = some (.dK ks) ∧ H b = some (.dK ls) ∧ ks.length = ls.length ∧ ks.length ≤ 1000 ∧
    (∀ (i : Nat) (p q : Key × V), ks[i]? = some p → ls[i]? = some q → p.1 = q.1 ∧ keyOk p.1) ∧ ∀ (i : Nat) (p q : Key × V), ks[i]? = some p → ls[i]? = some q → SameD H m p.2 q.2 := by
  cases h with
  | non => cases hx; cases e
  | int i => cases hx; cases e
  | bl b => cases hx; cases e
  | str h => cases hx; cases e
  | lst ha hb hl h1 h =>
    cases hx with
    | lst q => cases e
    | tup q => cases e
    | dict q => rw [ha] at q; cases q
    | fn q c => cases e
  | tup ha hb hl h1 h =>
    cases hx with
    | lst q => cases e
    | tup q => cases e
    | dict q => rw [ha] at q; cases q
    | fn q c => cases e
  | dict ha hb hl h1 hk h => exact ⟨_, _, _, _, _, rfl, rfl, rfl, ha, hb, hl, h1, hk, h⟩
theorem ok_same {f : Addr} {fd : FuncData} (F : Fun K "_law_same" "_law_same" sSame f fd) (B : B0 K mg) (bS : Binds K fd ["found", "due"] []) (gS : mg "_law_same" = some (.ref f)) : ∀ n, FnOk P w K mg base CX0 (n + 1) f fd ["found", "due"] (spSame n)
  | 0 => ok_same0 F B
  | n + 1 => by
    have G : FnOk P w K mg base CX0 (n + 1) f fd ["found", "due"] (spSame n) := ok_same F B bS gS n
    refine F.ok scSame (fun vs H Q E h => ?_) (fun cdv A outer s H vs Q E hr h => ?_)
    · obtain ⟨x, y, rfl, _⟩ := h
      rfl
    · obtain ⟨x, y, rfl, hd, q⟩ := h
      refine ⟨_, pss_cons (ps_if (pt_val (pe_callB call_isiTZ (by rfl) B.isi (by decide +kernel) (pa_cons (pv 1) (pa_cons (pe_tup (pa_cons (pe_bltn (v := .ty "list") (by rfl) B.list (by decide +kernel) rfl) (pa_cons (pe_bltn (v := .ty "tuple") (by rfl) B.tuple (by decide +kernel) rfl) pa_nil))) pa_nil)))) (pss_cons (ps_if (PW.pt (pw_or (pt_cmpR op_ne (pe_callB call_isiZ (by rfl) B.isi (by decide +kernel) (pa_cons (pv 0) (pa_cons (pe_bltn (v := .ty "list") (by rfl) B.list (by decide +kernel) rfl) pa_nil))) (pe_callB call_isiZ (by rfl) B.isi (by decide +kernel) (pa_cons (pv 1) (pa_cons (pe_bltn (v := .ty "list") (by rfl) B.list (by decide +kernel) rfl) pa_nil))) (nomark _)) (pw_or1 (pt_cmpR op_ne (pe_callB call_isiZ (by rfl) B.isi (by decide +kernel) (pa_cons (pv 0) (pa_cons (pe_bltn (v := .ty "tuple") (by rfl) B.tuple (by decide +kernel) rfl) pa_nil))) (pe_callB call_isiZ (by rfl) B.isi (by decide +kernel) (pa_cons (pv 1) (pa_cons (pe_bltn (v := .ty "tuple") (by rfl) B.tuple (by decide +kernel) rfl) pa_nil))) (nomark _))))) (pss_one (ps_ret pe_bl)) pss_nil)
          (pss_one (ps_ret (pe_and (pe_cmpR op_eq (pe_callB call_len_seq (by rfl) B.len PySem.boot_len (pa_cons (pv 0) pa_nil)) (pe_callB call_len_seq (by rfl) B.len PySem.boot_len (pa_cons (pv 1) pa_nil)) (nomark _))
            (pe_one (pe_callB (cr_all rfl) (by rfl) B.all (by decide +kernel) (pa_cons (pe_lc (te := tCall (spSame n) [] E0 (tCons (tVar 2) (tCons (tVar 3) tNil))) (own := [("x", 2), ("y", 3)]) (g := gTup K 2 (gCons (gName 2) (gCons (gName 3) gNil))) (tt := tYes) rfl scSame.nd (pi_zipA (by rfl) B.zip (pa_cons (pv 0) (pa_cons (pv 1) pa_nil)))
              (blkOk_by (N := ["found", "due", "x", "y"]) (sc := defScope sSame) (by decide +kernel)) (fun _ _ _ _ _ => by exact (pg_tup rfl (pgs_cons (pg_name (i := 2) scSame.nd rfl (Or.inl rfl)) (pgs_cons (pg_name (i := 3) scSame.nd rfl (Or.inl rfl)) pgs_nil)))) (fun _ _ _ _ _ => pts_nil)
              (fun _ _ _ _ _ => by exact (pe_call G hr (by rfl) gS F.kp bS .nil pass0 (pa_cons (pv 2) (pa_cons (pv 3) pa_nil))))) pa_nil))))))) pss_nil)
        (pss_cons (ps_if (pt_val (pe_callB call_isiZ (by rfl) B.isi (by decide +kernel) (pa_cons (pv 1) (pa_cons (pe_bltn (v := .ty "dict") (by rfl) B.dict (by decide +kernel) rfl) pa_nil)))) (pss_one (ps_ret (pe_and (pe_callB call_isiZ (by rfl) B.isi (by decide +kernel) (pa_cons (pv 0) (pa_cons (pe_bltn (v := .ty "dict") (by rfl) B.dict (by decide +kernel) rfl) pa_nil))) (pe_one (pe_call G hr (by rfl) gS F.kp bS .nil pass0 (pa_cons (LiI.pe_listItems rfl (pv 0) (by rfl) B.list (by decide +kernel)) (pa_cons (LiI.pe_listItems rfl (pv 1) (by rfl) B.list (by decide +kernel)) pa_nil))))))) pss_nil)
        (pss_cons (ps_if (pt_val (pe_callB call_isiZ (by rfl) B.isi (by decide +kernel) (pa_cons (pv 1) (pa_cons (pe_bltn (v := .ty "int") (by rfl) B.int (by decide +kernel) rfl) pa_nil)))) (pss_one (ps_ret (pe_and (pe_callB call_isiZ (by rfl) B.isi (by decide +kernel) (pa_cons (pv 0) (pa_cons (pe_bltn (v := .ty "int") (by rfl) B.int (by decide +kernel) rfl) pa_nil))) (pe_and (pe_cmpR op_eq (pe_callB call_isiZ (by rfl) B.isi (by decide +kernel) (pa_cons (pv 0) (pa_cons (pe_bltn (v := .ty "bool") (by rfl) B.bool (by decide +kernel) rfl) pa_nil))) (pe_callB call_isiZ (by rfl) B.isi (by decide +kernel) (pa_cons (pv 1) (pa_cons (pe_bltn (v := .ty "bool") (by rfl) B.bool (by decide +kernel) rfl) pa_nil))) (nomark _)) (pe_one (pe_cmpR op_eq (pv 0) (pv 1) (nomark _))))))) pss_nil)
        (pss_one (ps_ret (pe_and (pe_not (pe_callB call_isiTZ (by rfl) B.isi (by decide +kernel) (pa_cons (pv 0) (pa_cons (pe_tup (pa_cons (pe_bltn (v := .ty "int") (by rfl) B.int (by decide +kernel) rfl) (pa_cons (pe_bltn (v := .ty "list") (by rfl) B.list (by decide +kernel) rfl) (pa_cons (pe_bltn (v := .ty "tuple") (by rfl) B.tuple (by decide +kernel) rfl) (pa_cons (pe_bltn (v := .ty "dict") (by rfl) B.dict (by decide +kernel) rfl) pa_nil))))) pa_nil)))) (pe_one (pe_cmpR op_eq (pv 0) (pv 1) (nomark _)))))))), ?_⟩
      obtain ⟨k, hx, hy, kds, kleaf⟩ := hd.kd (K := K)
      refine ⟨_, rfl, by show 2 ≤ sizeLine; decide, fun p hp => ?_⟩
      have s1 := same_upd (o := .tup [.ty "list", .ty "tuple"]) hp
      refine ⟨y, p, [.ty "list", .ty "tuple"], _, [.type "list", .type "tuple"], k.isSeq, rfl, upd_same, .cons (.ty _) (.cons (.ty _) .nil), (hy.same s1).ty, kit_seq k, _, rfl, ?_⟩
      cases kseq : k.isSeq with
      | true =>
        refine iteT ?_
        obtain ⟨m, a, b, xs, ys, hm, rfl, rfl, hl, h1, hin, hkind⟩ := hd.seq hx kseq
        cases hm
        refine ⟨_, rfl, .ref a, .ty "list", _, .type "list", _, rfl, .ty _, (hx.same s1).ty, kit_list k, _, rfl, .ref b, .ty "list", _, .type "list", _, rfl, .ty _, (hy.same s1).ty, kit_list k, rfl, _, rfl, iteNS rfl ?_⟩
        refine ⟨_, rfl, .ref a, .ty "tuple", _, .type "tuple", _, rfl, .ty _, (hx.same s1).ty, kit_tup k, _, rfl, .ref b, .ty "tuple", _, .type "tuple", _, rfl, .ty _, (hy.same s1).ty, kit_tup k, rfl, _, rfl, iteNS rfl ?_⟩
        have hq0 : (SqL K _ a xs ∧ SqL K _ b ys) ∨ (SqT K _ a xs ∧ SqT K _ b ys) := hkind.elim (fun e => .inl ⟨SqL.of (s1 _ _ e.1), SqL.of (s1 _ _ e.2.1)⟩) fun e => .inr ⟨SqT.of (s1 _ _ e.1), SqT.of (s1 _ _ e.2.1)⟩
        have la : SqL K _ a xs ∨ SqT K _ a xs := hq0.elim (fun e => .inl e.1) fun e => .inr e.1
        have lb : SqL K _ b ys ∨ SqT K _ b ys := hq0.elim (fun e => .inl e.2) fun e => .inr e.2
        refine ⟨_, rfl, a, xs, rfl, la, _, rfl, b, ys, rfl, lb, rfl, true, by rw [hl]; exact congrArg V.bl (decide_eq_true rfl), iteT ?_⟩
        refine ⟨_, rfl, _, rfl, a, b, xs, ys, rfl, lc_zipA hl hq0 (fun D i H' => Same (upd H p (.tup [.ty "list", .ty "tuple"])) H' ∧ H' D = some (.lst (List.replicate i (V.bl true)))) (fun D hD => ⟨same_upd hD, upd_same⟩) (fun D i H' hD pv => pv.1) ?_ ?_⟩
        · rintro D i x y T H' hD ex ey ⟨sm, hacc⟩ hT
          have sT := same_upd (o := .tup [x, y]) hT
          refine ⟨T, _, rfl, SqT.of upd_same, rfl, _, _, rfl, _, _, rfl, rfl, rfl, tyes ?_⟩
          refine ⟨_, rfl, _, rfl, x, y, rfl, (hin i x y ex ey).mono (s1.trans (sm.trans sT)), fun H3 sm3 => ⟨_, sm3 _ _ (sT _ _ hacc), ?_, ?_, ?_⟩⟩
          · rw [List.length_replicate]
            exact Nat.lt_of_lt_of_le (List.getElem?_eq_some_iff.mp ex).1 (Nat.le_trans h1 (by decide))
          · exact fun c o e => by rw [upd_ne (ne_of_none e hD)]; exact sm3 _ _ (sT _ _ (sm c o e))
          · rw [upd_same, ← List.replicate_succ']
        · rintro D H' hD ⟨sm, hacc⟩
          refine ⟨D, List.replicate xs.length true, rfl, SqL.of (by rw [hacc, List.map_replicate]), ?_⟩
          have e : (List.replicate xs.length true).all id = true := by simp
          rw [e]
          exact q _ (s1.trans sm)
      | false =>
      refine iteF ?_
      refine ⟨_, rfl, y, .ty "dict", _, .type "dict", _, rfl, .ty _, (hy.same s1).ty, kit_dict k, _, rfl, ?_⟩
      cases kdict : k.isDict with
      | true =>
        obtain ⟨m, a, b, ks, ls, hm, rfl, rfl, ha, hb, hl, h1, hk, hv⟩ := hd.dct hx kdict
        refine iteT ⟨_, rfl, .ref a, .ty "dict", _, .type "dict", _, rfl, .ty _, (hx.same s1).ty, kit_dict k, _, rfl, ?_⟩
        rw [kdict]
        refine iteT ⟨_, rfl, a, ks, rfl, s1 _ _ ha, fun H1 p1 ts1 s1' hp1 hts1 hpt1 e1 t1 => ?_⟩
        refine ⟨_, rfl, b, ls, rfl, s1' _ _ (s1 _ _ hb), fun H2 p2 ts2 s2 hp2 hts2 hpt2 e2 t2 => ?_⟩
        have hn : n = m + 2 := by omega
        subst hn
        have l1 : ts1.length = ks.length := Paired.length t1
        have l2 : ts2.length = ls.length := Paired.length t2
        refine ⟨.ref p1, .ref p2, rfl, .lst (s2 _ _ e1) e2 (by rw [List.length_map, List.length_map, l1, l2, hl]) (by rw [List.length_map, l1]; exact h1) (fun i u v eu ev => ?_), fun H3 s3 => q H3 (Same.trans s1 (Same.trans s1' (Same.trans s2 s3)))⟩
        obtain ⟨tu, htu, rfl⟩ := get_map eu
        obtain ⟨tv, htv, rfl⟩ := get_map ev
        obtain ⟨p, hp, ep⟩ := paired_get t1 htu
        obtain ⟨w2, hw, ew⟩ := paired_get t2 htv
        refine .tup (s2 _ _ ep) ew rfl (by show 2 ≤ 1000; decide) fun n' x1 x2 g1 g2 => ?_
        obtain ⟨ek, ok⟩ := hk i p w2 hp hw
        match n', g1, g2 with
        | 0, rfl, g2 =>
          have e2 : kV w2.1 = x2 := Option.some.inj g2
          rw [← e2, ← ek]
          cases hkk : p.1 with
          | inl j => exact .int j
          | inr z => rw [hkk] at ok; exact .str ok
        | 1, rfl, rfl => exact (hv i p w2 hp hw).mono (Same.trans s1 (Same.trans s1' s2))
      | false =>
      refine iteF ?_
      refine ⟨_, rfl, y, .ty "int", _, .type "int", _, rfl, .ty _, (hy.same s1).ty, kit_int k, _, rfl, ?_⟩
      have hleaf : x = y ∧ scal x y = true := kleaf kseq kdict
      have fin : ∀ {G : Hp}, Same H G → Q (.bl (decide (x = y))) G := fun s => by rw [decide_eq_true hleaf.1]; exact q _ s
      cases kint : (k.isInt || k.isBool) with
      | true =>
        refine iteT ⟨_, rfl, x, .ty "int", _, .type "int", _, rfl, .ty _, (hx.same s1).ty, kit_int k, _, rfl, ?_⟩
        rw [kint]
        refine iteT ⟨_, rfl, x, .ty "bool", _, .type "bool", _, rfl, .ty _, (hx.same s1).ty, kit_bool k, _, rfl, y, .ty "bool", _, .type "bool", _, rfl, .ty _, (hy.same s1).ty, kit_bool k, rfl, true, by rw [decide_eq_true rfl], iteT ?_⟩
        exact ⟨_, rfl, _, rfl, hleaf.2, fin s1⟩
      | false =>
        refine iteF ?_
        refine ⟨_, rfl, by show 4 ≤ sizeLine; decide, fun p2 hp2 => ?_⟩
        have s2 := s1.trans (same_upd (o := .tup [.ty "int", .ty "list", .ty "tuple", .ty "dict"]) hp2)
        refine ⟨x, p2, [.ty "int", .ty "list", .ty "tuple", .ty "dict"], _, [.type "int", .type "list", .type "tuple", .type "dict"], false, rfl, upd_same, .cons (.ty _) (.cons (.ty _) (.cons (.ty _) (.cons (.ty _) .nil))), (hx.same s2).ty, ?_, ?_⟩
        · rw [kit_seq4, kint, kdict, kseq]; rfl
        exact ⟨false, rfl, true, rfl, iteT ⟨_, rfl, _, rfl, hleaf.2, fin s2⟩⟩
end
end RK

namespace L2
open PySem PySem.Spec PyProof.Rows
/-- len of a dict, also of one that is walked -/
theorem call_lenR {X : Cx} : CallR X (.builtin "len") (fun xs H Q => ∃ a kvs, xs = [V.ref a] ∧ Rd H a (.dK kvs) ∧ Q (.int (kvs.length : Nat)) H) := by
  intro pins s σ H xs us Q I r h
  obtain ⟨a, kvs, rfl, ha, q⟩ := h
  cases r with
  | cons r1 r2 =>
    cases r2
    cases r1
    exact d_len I ha fun t s' I' => ⟨.int (kvs.length : Nat), H, I', ⟨t, rfl⟩, q⟩
end L2
namespace RK
open PySem L2
/-! ### stands as the law keeps them -/
structure Sta (zs ks : List Str) (kvs : List (Key × V)) : Prop where
  eq : kvs = ks.map fun z => ((Sum.inr z : Key), V.int (placeOf kvs z))
  pm : ks.Perm zs
  ok : standB zs kvs = true
theorem Sta.len {zs ks : List Str} {kvs : List (Key × V)} (h : Sta zs ks kvs) : kvs.length = zs.length := by
  rw [h.eq, List.length_map, h.pm.length_eq]
theorem Sta.val {zs ks : List Str} {kvs : List (Key × V)} (h : Sta zs ks kvs) {z : Str} (hz : z ∈ zs) : valV kvs (Sum.inr z : Key) = some (.int (placeOf kvs z)) := dict_place (Bool.and_eq_true_iff.mp h.ok).1 z hz
def spRest : Sp := fun vs H Q _ => ∃ (d : Addr) (z : Str) (m p : Int) (kvs : List (Key × V)), vs = [.ref d, .str z, .int m] ∧ Rd H d (.dK kvs) ∧ valV kvs (Sum.inr z : Key) = some (.int p) ∧ 0 < kvs.length ∧ ∀ H', Same H H' → Q (.int ((p + m) % (kvs.length : Int))) H'
def spWAhead : Sp := fun vs H Q _ => ∃ (d : Addr) (zs ks : List Str) (kvs : List (Key × V)) (z : Str), vs = [.ref d, .str z] ∧ H d = some (.dK kvs) ∧ Sta zs ks kvs ∧ z ∈ zs ∧ 0 < zs.length ∧ zs.length ≤ 1000 ∧ ∀ H', Same H H' → Q (.str ((nextOf zs kvs z).getD z)) H'
section
variable {P : Program} {w : World} {K : PySem.W.Frag} {mg : Str → Option Value} {base : Heap}
end
end RK

namespace RK
open PySem L2
/-! ### stands made of places -/
def kvOf (ks : List Str) (g : Str → Int) : List (Key × V) := ks.map fun u => ((Sum.inr u : Key), V.int (g u))
theorem val_kv {g : Str → Int} {z : Str} : ∀ {ks : List Str}, z ∈ ks → valV (kvOf ks g) (Sum.inr z : Key) = some (.int (g z))
  | [], h => nomatch h
  | y :: r, h => by
    unfold kvOf
    rw [List.map_cons]
    by_cases e : y = z
    · subst e; rw [valV_pos rfl]
    · rw [valV_neg (fun t => e (Sum.inr.inj t))]
      exact val_kv ((List.mem_cons.mp h).resolve_left fun t => e t.symm)
theorem place_kv {ks : List Str} {g : Str → Int} {z : Str} (h : z ∈ ks) : placeOf (kvOf ks g) z = g z := by
  unfold placeOf
  rw [val_kv h]
theorem kv_congr {ks : List Str} {g g' : Str → Int} (h : ∀ z ∈ ks, g z = g' z) : kvOf ks g = kvOf ks g' := List.map_congr_left fun z hz => by rw [h z hz]
theorem Sta.mk' {zs ks : List Str} {g : Str → Int} (pm : ks.Perm zs) (hs : (zs.map g).sum = (zs.length : Int) * ((zs.length : Int) - 1) / 2) (hr : (zs.map fun u => g u % (zs.length : Int)).Nodup) : Sta zs ks (kvOf ks g) := by
  have hp : ∀ z ∈ zs, placeOf (kvOf ks g) z = g z := fun z hz => place_kv (pm.mem_iff.mpr hz)
  refine ⟨?_, pm, ?_⟩
  · show kvOf ks g = kvOf ks fun z => placeOf (kvOf ks g) z
    exact kv_congr fun z hz => (place_kv hz).symm
  · have e1 : placesOf zs (kvOf ks g) = zs.map g := List.map_congr_left hp
    have e2 : restsOf zs (kvOf ks g) = zs.map fun u => g u % (zs.length : Int) := by
      unfold restsOf
      rw [e1, List.map_map]
      rfl
    have hd : dictB zs (kvOf ks g) = true := by
      unfold dictB
      have hl : (kvOf ks g).length = zs.length := by unfold kvOf; rw [List.length_map, pm.length_eq]
      rw [decide_eq_true hl, Bool.true_and, List.all_eq_true]
      intro z hz
      rw [val_kv (pm.mem_iff.mpr hz)]
      rfl
    unfold standB
    rw [hd, e1, e2, decide_eq_true hs, decide_eq_true hr]
    rfl
theorem Sta.kv {zs ks : List Str} {kvs : List (Key × V)} (h : Sta zs ks kvs) : kvs = kvOf ks (placeOf kvs) := h.eq
theorem Sta.sum {zs ks : List Str} {kvs : List (Key × V)} (h : Sta zs ks kvs) : (zs.map (placeOf kvs)).sum = (zs.length : Int) * ((zs.length : Int) - 1) / 2 := of_decide_eq_true (Bool.and_eq_true_iff.mp (Bool.and_eq_true_iff.mp h.ok).2).1
theorem put_kv {ks : List Str} {g : Str → Int} {z : Str} {v : Int} (h : z ∈ ks) : putK (kvOf ks g) (Sum.inr z : Key) (.int v) = kvOf ks fun u => if u = z then v else g u := by
  unfold putK
  rw [if_pos]
  · unfold kvOf
    rw [List.map_map]
    refine List.map_congr_left fun u hu => ?_
    show (if (Sum.inr u : Key) = Sum.inr z then ((Sum.inr u : Key), V.int v) else ((Sum.inr u : Key), V.int (g u))) = _
    by_cases e : u = z
    · subst e
      rw [if_pos rfl]
      show _ = ((Sum.inr u : Key), V.int (if u = u then v else g u))
      rw [if_pos rfl]
    · rw [if_neg (fun t => e (Sum.inr.inj t))]
      show _ = ((Sum.inr u : Key), V.int (if u = z then v else g u))
      rw [if_neg e]
  · rw [valV_any, val_kv h]
    rfl
theorem sum_one {z : Str} {c : Int} : ∀ {l : List Str}, l.Nodup → (l.map fun u => if u = z then c else 0).sum = if z ∈ l then c else 0
  | [], _ => rfl
  | y :: r, h => by
    rw [List.nodup_cons] at h
    rw [List.map_cons, List.sum_cons, sum_one h.2]
    by_cases e : y = z
    · subst e
      rw [if_pos rfl, if_neg h.1, if_pos List.mem_cons_self]
      omega
    · rw [if_neg e]
      by_cases hz : z ∈ r
      · rw [if_pos hz, if_pos (List.mem_cons_of_mem _ hz)]; omega
      · rw [if_neg hz, if_neg (fun q => (List.mem_cons.mp q).elim (fun t => e t.symm) hz)]; omega
theorem sum_add {f g : Str → Int} : ∀ {l : List Str}, (l.map fun u => f u + g u).sum = (l.map f).sum + (l.map g).sum
  | [] => rfl
  | y :: r => by
    rw [List.map_cons, List.sum_cons, List.map_cons, List.sum_cons, List.map_cons, List.sum_cons, sum_add]
    omega
theorem nodup_inj {α : Type} {f : Str → α} : ∀ {l : List Str}, l.Nodup → (∀ a ∈ l, ∀ b ∈ l, f a = f b → a = b) → (l.map f).Nodup
  | [], _, _ => .nil
  | y :: r, h, hi => by
    rw [List.nodup_cons] at h
    rw [List.map_cons, List.nodup_cons]
    refine ⟨fun q => ?_, nodup_inj h.2 fun a ha b hb => hi a (List.mem_cons_of_mem _ ha) b (List.mem_cons_of_mem _ hb)⟩
    obtain ⟨u, hu, e⟩ := List.mem_map.mp q
    exact h.1 (hi u (List.mem_cons_of_mem _ hu) y List.mem_cons_self e ▸ hu)
/-- one overtakes the one right ahead: the places behind it -/
def overOf (zs : List Str) (kvs : List (Key × V)) (z : Str) (u : Str) : Int := if u = (nextOf zs kvs z).getD z then placeOf kvs ((nextOf zs kvs z).getD z) - 1 else if u = z then placeOf kvs z + 1 else placeOf kvs u
theorem next_ne {zs : List Str} {kvs : List (Key × V)} {z y : Str} (h2 : 2 ≤ zs.length) (e : placeOf kvs y % (zs.length : Int) = (placeOf kvs z + 1) % (zs.length : Int)) : y ≠ z := by
  intro q
  subst q
  have hn : (2 : Int) ≤ (zs.length : Nat) := by omega
  have h1 := Int.emod_emod_of_dvd (placeOf kvs y + 1 - placeOf kvs y) (Int.dvd_refl (zs.length : Int))
  have h3 : (placeOf kvs y + 1 - placeOf kvs y) % (zs.length : Int) = 0 := by
    rw [Int.sub_emod, ← e, Int.sub_self]
    rfl
  rw [show placeOf kvs y + 1 - placeOf kvs y = 1 by omega, Int.emod_eq_of_lt (by omega) (by omega)] at h3
  cases h3
theorem Sta.over {zs ks : List Str} {kvs : List (Key × V)} (h : Sta zs ks kvs) (nd : zs.Nodup) (h2 : 2 ≤ zs.length) {z : Str} (hz : z ∈ zs) : Sta zs ks (kvOf ks (overOf zs kvs z)) := by
  obtain ⟨y, hy1, hy2, hy3⟩ := next_is h.ok (by omega) z
  have hne : y ≠ z := next_ne h2 hy3
  have ho : ∀ u, overOf zs kvs z u = if u = y then placeOf kvs y - 1 else if u = z then placeOf kvs z + 1 else placeOf kvs u := fun u => by
    unfold overOf
    rw [hy1]
    rfl
  have hpos : (0 : Int) < (zs.length : Nat) := by omega
  refine Sta.mk' h.pm ?_ ?_
  · have e : ∀ u ∈ zs, overOf zs kvs z u = placeOf kvs u + ((if u = z then 1 else 0) + (if u = y then -1 else 0)) := fun u _ => by
      rw [ho u]
      by_cases e1 : u = y
      · rw [if_pos e1, if_neg (fun q => hne (e1 ▸ q)), if_pos e1, e1]; omega
      · rw [if_neg e1, if_neg e1]
        by_cases e2 : u = z
        · rw [if_pos e2, if_pos e2, e2]; omega
        · rw [if_neg e2, if_neg e2]; omega
    rw [List.map_congr_left e, sum_add, sum_add, sum_one nd, sum_one nd, if_pos hz, if_pos hy2, ← h.sum]
    omega
  · have swap : ∀ u ∈ zs, overOf zs kvs z u % (zs.length : Int) = placeOf kvs (if u = y then z else if u = z then y else u) % (zs.length : Int) := fun u _ => by
      rw [ho u]
      by_cases e1 : u = y
      · rw [if_pos e1, if_pos e1, Int.sub_emod, hy3, ← Int.sub_emod]
        congr 1
        omega
      · rw [if_neg e1, if_neg e1]
        by_cases e2 : u = z
        · rw [if_pos e2, if_pos e2, hy3]
        · rw [if_neg e2, if_neg e2]
    have mem : ∀ u ∈ zs, (if u = y then z else if u = z then y else u) ∈ zs := fun u hu => by
      by_cases e1 : u = y
      · rw [if_pos e1]; exact hz
      · rw [if_neg e1]
        by_cases e2 : u = z
        · rw [if_pos e2]; exact hy2
        · rw [if_neg e2]; exact hu
    refine nodup_inj nd fun a ha b hb e => ?_
    rw [swap a ha, swap b hb] at e
    have q := rest_inj h.ok (mem a ha) (mem b hb) e
    have inv : ∀ u, (if (if u = y then z else if u = z then y else u) = y then z else if (if u = y then z else if u = z then y else u) = z then y else (if u = y then z else if u = z then y else u)) = u := fun u => by
      by_cases e1 : u = y
      · rw [if_pos e1, if_neg (fun t => hne t.symm), if_pos rfl, e1]
      · rw [if_neg e1]
        by_cases e2 : u = z
        · rw [if_pos e2, if_pos rfl, e2]
        · rw [if_neg e2, if_neg e1, if_neg e2]
    rw [← inv a, q, inv b]
end RK

namespace RK
open PySem L2
theorem merge_app : ∀ {more acc : List (Key × V)}, ((acc ++ more).map (·.1)).Nodup → mergeK acc more = acc ++ more
  | [], acc, _ => by rw [List.append_nil]; rfl
  | kv :: r, acc, h => by
    have e : acc ++ kv :: r = (acc ++ [kv]) ++ r := by simp
    show mergeK (putK acc kv.1 kv.2) r = _
    rw [put_new fun p hp q => ?_, e]
    · exact merge_app (by rw [← e]; exact h)
    · rw [List.map_append, List.map_cons] at h
      have := (List.nodup_append.mp h).2.2
      exact this p.1 (List.mem_map_of_mem hp) kv.1 List.mem_cons_self q
theorem merge_self {kvs : List (Key × V)} (h : (kvs.map (·.1)).Nodup) : mergeK [] kvs = kvs := merge_app (acc := []) h
theorem keys_kv {ks : List Str} {g : Str → Int} : (kvOf ks g).map (·.1) = ks.map fun z => (Sum.inr z : Key) := by
  unfold kvOf
  rw [List.map_map]
  rfl
theorem nodup_keys {ks : List Str} (h : ks.Nodup) : (ks.map fun z => (Sum.inr z : Key)).Nodup := nodup_inj h fun _ _ _ _ e => Sum.inr.inj e
theorem Sta.keys {zs ks : List Str} {kvs : List (Key × V)} (h : Sta zs ks kvs) (nd : zs.Nodup) : (kvs.map (·.1)).Nodup := by
  rw [h.kv, keys_kv]
  exact nodup_keys (h.pm.nodup_iff.mpr nd)
def spWFirst : Sp := fun vs H Q _ => ∃ (n : Addr) (zs : List Str), vs = [.ref n] ∧ H n = some (.lst (zs.map V.str)) ∧ zs.Nodup ∧ zs.length ≤ 1000 ∧ ∀ d H', H d = none → H' d = some (.dK (firstKv zs)) → Same H H' → Q (.ref d) H'
def spWOver : Sp := fun vs H Q _ => ∃ (d : Addr) (zs ks : List Str) (kvs : List (Key × V)) (z : Str), vs = [.ref d, .str z] ∧ H d = some (.dK kvs) ∧ Sta zs ks kvs ∧ zs.Nodup ∧ z ∈ zs ∧ 2 ≤ zs.length ∧ zs.length ≤ 1000 ∧
  ∀ e H', H e = none → H' e = some (.dK (kvOf ks (overOf zs kvs z))) → Same H H' → Q (.ref e) H'
section
variable {P : Program} {w : World} {K : PySem.W.Frag} {mg : Str → Option Value} {base : Heap}
end
end RK

namespace RK
open PySem L2
theorem SpAt.lst {H : Hp} {a : Addr} {m : Nat} (h : SpAt H a m) : ∃ ys, H a = some (.lst ys) := by
  obtain ⟨o, ho, x, y, c, rfl, _⟩ := h
  exact ⟨_, ho⟩
theorem SpAt.same {H H' : Hp} {a : Addr} {m : Nat} (h : SpAt H a m) (s : Same H H') : SpAt H' a m := by
  obtain ⟨o, ho, q⟩ := h
  exact ⟨o, s _ _ ho, q⟩
theorem keys_list {ks : List Str} {g : Str → Int} : ((kvOf ks g).map fun kv => kV kv.1) = ks.map V.str := by
  unfold kvOf
  rw [List.map_map]
  rfl
theorem over_le {zs ks : List Str} {kvs : List (Key × V)} {z : Str} {B : Nat} (h : Sta zs ks kvs) (h0 : 0 < zs.length) (hz : z ∈ zs) (hb : ∀ u ∈ zs, (placeOf kvs u).natAbs ≤ B) : ∀ u ∈ zs, (placeOf (kvOf ks (overOf zs kvs z)) u).natAbs ≤ B + 1 := fun u hu => by
  rw [place_kv (h.pm.mem_iff.mpr hu)]
  obtain ⟨y, hy1, hy2, _⟩ := next_is h.ok h0 z
  have e1 := hb y hy2
  have e2 := hb z hz
  have e3 := hb u hu
  unfold overOf
  rw [hy1]
  show (if u = y then placeOf kvs y - 1 else if u = z then placeOf kvs z + 1 else placeOf kvs u).natAbs ≤ B + 1
  split
  · omega
  · split
    · omega
    · omega
/-- a run of overtakings from one stand to another -/
inductive Goes (zs ks : List Str) : List (Key × V) → List (Str × Str) → List (Key × V) → Prop where
  | nil {kvs : List (Key × V)} : Goes zs ks kvs [] kvs
  | snoc {kvs kv1 : List (Key × V)} {rn : List (Str × Str)} {z : Str} (h : Goes zs ks kvs rn kv1) (hz : z ∈ zs) : Goes zs ks kvs (rn ++ [(z, (nextOf zs kv1 z).getD z)]) (kvOf ks (overOf zs kv1 z))
/-- a list of pairs at r -/
def PairsAt (H : Hp) (r : Addr) (rn : List (Str × Str)) : Prop := ∃ ts : List Addr, H r = some (.lst (ts.map V.ref)) ∧ Paired (fun (t : Addr) (pr : Str × Str) => t ≠ r ∧ H t = some (.tup [.str pr.1, .str pr.2])) ts rn
theorem PairsAt.same {H H' : Hp} {r : Addr} {rn : List (Str × Str)} (h : PairsAt H r rn) (s : Same H H') : PairsAt H' r rn := by
  obtain ⟨ts, h1, h2⟩ := h
  exact ⟨ts, s _ _ h1, Paired.mono (fun t pr e => ⟨e.1, s _ _ e.2⟩) h2⟩
/-- a stand that is told: at e, in the order ks, its places by g -/
def spWRun : Sp := fun vs H Q _ => ∃ (a d : Addr) (zs ks : List Str) (kvs : List (Key × V)) (N m B : Nat), vs = [.ref a, .ref d, .int (N : Nat)] ∧ (∀ z ∈ zs, (placeOf kvs z).natAbs ≤ B) ∧ a ≠ d ∧ SpAt H a m ∧ m + N < 2000000000 ∧ H d = some (.dK kvs) ∧ Sta zs ks kvs ∧ zs.Nodup ∧ 2 ≤ zs.length ∧ zs.length ≤ 1000 ∧ N ≤ 1000 ∧
  ∀ p r e kvs' rn H', H' p = some (.tup [.ref r, .ref e]) → PairsAt H' r rn → Goes zs ks kvs rn kvs' → rn.length = N → H r = none → H' e = some (.dK kvs') → Sta zs ks kvs' → (∀ z ∈ zs, (placeOf kvs' z).natAbs ≤ B + N) → e ≠ a → SpAt H' a (m + N) → But a H H' → Q (.ref p) H'
section
variable {P : Program} {w : World} {K : PySem.W.Frag} {mg : Str → Option Value} {base : Heap}
end
end RK

namespace RK
open PySem L2
/-! ### the first stand is one -/
theorem sum_range : ∀ n : Nat, 2 * ((List.range n).map fun i => ((i : Nat) : Int)).sum = (n : Int) * ((n : Int) - 1)
  | 0 => rfl
  | n + 1 => by
    rw [List.range_succ, List.map_append, List.sum_append, List.map_singleton, List.sum_singleton, Int.mul_add, sum_range n]
    have e : ((n + 1 : Nat) : Int) = (n : Int) + 1 := by omega
    rw [e, show (n : Int) + 1 - 1 = n by omega, Int.add_mul, Int.mul_sub, Int.one_mul, Int.mul_one]
    omega
theorem half_sum (n : Nat) : ((List.range n).map fun i => ((i : Nat) : Int)).sum = (n : Int) * ((n : Int) - 1) / 2 := by
  have := sum_range n
  omega
theorem idx_range {zs : List Str} (nd : zs.Nodup) : (zs.map fun z => ((zs.idxOf z : Nat) : Int)) = (List.range zs.length).map fun i => ((i : Nat) : Int) := by
  refine List.ext_getElem (by rw [List.length_map, List.length_map, List.length_range]) fun i h1 h2 => ?_
  rw [List.getElem_map, List.getElem_map, List.getElem_range]
  rw [List.length_map] at h1
  rw [nd.idxOf_getElem i h1]
theorem first_kv {zs : List Str} (nd : zs.Nodup) : firstKv zs = kvOf zs fun z => ((zs.idxOf z : Nat) : Int) := by
  unfold firstKv kvOf
  refine List.ext_getElem (by rw [List.length_map, List.length_map, List.length_zipIdx]) fun i h1 h2 => ?_
  rw [List.length_map] at h2
  rw [List.getElem_map, List.getElem_map, List.getElem_zipIdx]
  show ((Sum.inr zs[i] : Key), V.int ((0 + i : Nat) : Int)) = ((Sum.inr zs[i] : Key), V.int ((zs.idxOf zs[i] : Nat) : Int))
  rw [nd.idxOf_getElem i h2, Nat.zero_add]
theorem first_sta {zs : List Str} (nd : zs.Nodup) (h0 : 0 < zs.length) : Sta zs zs (firstKv zs) := by
  rw [first_kv nd]
  refine Sta.mk' (List.Perm.refl _) ?_ ?_
  · rw [idx_range nd]
    exact half_sum _
  · refine nodup_inj nd fun x hx y hy e => ?_
    have h1 := List.idxOf_lt_length_of_mem hx
    have h2 := List.idxOf_lt_length_of_mem hy
    rw [Int.emod_eq_of_lt (by omega) (by omega), Int.emod_eq_of_lt (by omega) (by omega)] at e
    have e' : zs.idxOf x = zs.idxOf y := by omega
    rw [← List.getElem_idxOf h1, ← List.getElem_idxOf h2]
    congr 1
theorem first_le {zs : List Str} (nd : zs.Nodup) {n : Nat} (hl : zs.length ≤ n) : ∀ z ∈ zs, (placeOf (firstKv zs) z).natAbs ≤ n := fun z hz => by
  rw [first_kv nd, place_kv hz]
  have := List.idxOf_lt_length_of_mem hz
  omega
def spWNear : Sp := fun vs H Q _ => ∃ (a n : Addr) (zs : List Str) (N m : Nat), vs = [.ref a, .ref n, .int (N : Nat)] ∧ a ≠ n ∧ SpAt H a m ∧ m < 1000000000 ∧ H n = some (.lst (zs.map V.str)) ∧ zs.Nodup ∧ 2 ≤ zs.length ∧ zs.length ≤ 1000 ∧ N < 1000 ∧
  ∀ e kvs H', H' e = some (.dK kvs) → Sta zs zs kvs → (∀ z ∈ zs, (placeOf kvs z).natAbs ≤ 2000) → e ≠ a → SpAt H' a (m + 1000) → But a H H' → Q (.ref e) H'
section
variable {P : Program} {w : World} {K : PySem.W.Frag} {mg : Str → Option Value} {base : Heap}
end
end RK

namespace RK
open PySem L2
theorem paired_perm {α β : Type} {F : α → β → Prop} {ts' ts : List α} (h : ts'.Perm ts) : ∀ {ms : List β}, Paired F ts ms → ∃ ms', ms'.Perm ms ∧ Paired F ts' ms' := by
  induction h with
  | nil => intro ms q; exact ⟨ms, List.Perm.refl _, q⟩
  | cons x _ ih =>
    intro ms q
    cases q with
    | cons q1 q2 =>
      obtain ⟨ms', p, r⟩ := ih q2
      exact ⟨_, p.cons _, .cons q1 r⟩
  | swap x y l =>
    intro ms q
    cases q with
    | cons q1 q2 =>
      cases q2 with
      | cons q3 q4 => exact ⟨_, List.Perm.swap _ _ _, .cons q3 (.cons q1 q4)⟩
  | trans _ _ ih1 ih2 =>
    intro ms q
    obtain ⟨m2, p2, r2⟩ := ih2 q
    obtain ⟨m1, p1, r1⟩ := ih1 r2
    exact ⟨m1, p1.trans p2, r1⟩
def unRef : V → Addr
  | .ref a => a
  | _ => 0
theorem perm_refs {ys : List V} {ts : List Addr} (h : ys.Perm (ts.map V.ref)) : ∃ ts' : List Addr, ts'.Perm ts ∧ ys = ts'.map V.ref := by
  have q := h.map unRef
  rw [List.map_map, show (unRef ∘ V.ref) = id from rfl, List.map_id] at q
  refine ⟨_, q, ?_⟩
  rw [List.map_map]
  have e : ∀ y ∈ ys, (V.ref ∘ unRef) y = y := fun y hy => by
    obtain ⟨t, _, rfl⟩ := List.mem_map.mp (h.mem_iff.mp hy)
    rfl
  rw [List.map_congr_left e, List.map_id'']
  exact fun _ => rfl
theorem perm_kv {ks : List Str} {g : Str → Int} {kvs : List (Key × V)} (h : kvs.Perm (kvOf ks g)) : ∃ ks', ks'.Perm ks ∧ kvs = kvOf ks' g := by
  let f : Key × V → Str := fun kv => match kv.1 with | .inr z => z | .inl _ => ⟨#[]⟩
  have q := h.map f
  have e1 : (kvOf ks g).map f = ks := by
    unfold kvOf
    rw [List.map_map]
    exact List.map_id' _
  rw [e1] at q
  refine ⟨_, q, ?_⟩
  unfold kvOf
  rw [List.map_map]
  have e : ∀ kv ∈ kvs, ((fun u => ((Sum.inr u : Key), V.int (g u))) ∘ f) kv = kv := fun kv hkv => by
    obtain ⟨t, _, rfl⟩ := List.mem_map.mp (h.mem_iff.mp hkv)
    rfl
  rw [List.map_congr_left e, List.map_id'']
  exact fun _ => rfl
theorem But.free {a : Addr} {H H' : Hp} (b : But a H H') {e : Addr} (h : H' e = none) (ha : H' a ≠ none) : H e = none := by
  cases q : H e with
  | none => rfl
  | some u =>
    by_cases ea : e = a
    · subst ea; exact absurd h ha
    · rw [b _ _ ea q] at h; cases h
theorem SpAt.ne {H : Hp} {a : Addr} {m : Nat} (h : SpAt H a m) : H a ≠ none := by
  obtain ⟨o, ho, _⟩ := h
  rw [ho]
  exact fun q => nomatch q
def spHanded : Sp := fun vs H Q _ => ∃ (a d : Addr) (zs ks : List Str) (kvs : List (Key × V)) (m : Nat), vs = [.ref a, .ref d] ∧ a ≠ d ∧ SpAt H a m ∧ m < 1000000000 ∧ H d = some (.dK kvs) ∧ Sta zs ks kvs ∧ zs.Nodup ∧ zs.length ≤ 1000 ∧
  ∀ e ks' kvs' H', H e = none → H' e = some (.dK kvs') → Sta zs ks' kvs' → (∀ z ∈ zs, placeOf kvs' z = placeOf kvs z) → e ≠ a → SpAt H' a (m + 1000) → But a H H' → Q (.ref e) H'
section
variable {P : Program} {w : World} {K : PySem.W.Frag} {mg : Str → Option Value} {base : Heap}
end
end RK

namespace RK
open PySem L2
/-! ### the law's own look whether a thing is a stand -/
theorem sorted_range {n : Nat} {l l' : List Int} (hp : l'.Perm l) (hs : l'.Pairwise (· ≤ ·)) (hb : ∀ x ∈ l, 0 ≤ x ∧ x < (n : Int)) (hl : l.length = n) : l' = (List.range n).map (fun i => ((i : Nat) : Int)) ↔ l.Nodup := by
  constructor
  · intro e
    rw [← hp.nodup_iff, e]
    refine List.Pairwise.map _ (fun a b h => ?_) (List.nodup_range (n := n))
    intro q
    exact h (by omega)
  · intro hn
    have hn' : l'.Nodup := hp.nodup_iff.mpr hn
    have hmem : ∀ x, x ∈ l' ↔ x ∈ (List.range n).map (fun i => ((i : Nat) : Int)) := fun x => by
      rw [hp.mem_iff, List.mem_map]
      constructor
      · intro hx
        have := hb x hx
        exact ⟨x.toNat, List.mem_range.mpr (by omega), by omega⟩
      · rintro ⟨i, hi, rfl⟩
        exact pigeon hn hb hl (by omega) (by have := List.mem_range.mp hi; omega)
    have hr : ((List.range n).map (fun i => ((i : Nat) : Int))).Pairwise (· ≤ ·) := List.Pairwise.map _ (fun a b (h : a < b) => by omega) List.pairwise_lt_range
    have hrn : ((List.range n).map (fun i => ((i : Nat) : Int))).Nodup := List.Pairwise.map _ (fun a b (h : a ≠ b) q => h (by omega)) (List.nodup_range (n := n))
    have hperm : l'.Perm ((List.range n).map (fun i => ((i : Nat) : Int))) := (List.perm_ext_iff_of_nodup hn' hrn).mpr hmem
    exact hperm.eq_of_pairwise (fun a b _ _ h1 h2 => Int.le_antisymm h1 h2) hs hr
def spWIsSt (K : PySem.W.Frag) : Sp := fun vs H Q _ => ∃ (n : Addr) (zs : List Str) (v : V) (k : Kd), vs = [.ref n, v] ∧ H n = some (.lst (zs.map V.str)) ∧ 0 < zs.length ∧ zs.length ≤ 60 ∧ Th K H v k ∧
  (k.isDict = false → ∀ H', Same H H' → Q (.bl false) H') ∧
  (k.isDict = true → ∃ d kvs, v = .ref d ∧ H d = some (.dK kvs) ∧ (∀ kv ∈ kvs, ∃ kx, Th K H kv.2 kx) ∧ ∀ H', Same H H' → Q (.bl (standB zs kvs)) H')
theorem dpAll_ints {K : PySem.W.Frag} {H : Hp} : ∀ ns : List Int, DpAll K H (ns.map V.int) (ns.map PyData.int)
  | [] => .nil
  | i :: r => .cons (.int i) (dpAll_ints r)
theorem eqv_ints : ∀ ns ms : List Int, PyData.eqv (.list (ns.map PyData.int)) (.list (ms.map PyData.int)) = decide (ns = ms) := by
  have key : ∀ ns ms : List Int, PyData.eqvAll (ns.map PyData.int) (ms.map PyData.int) = decide (ns = ms) := by
    intro ns
    induction ns with
    | nil => intro ms; cases ms <;> simp [PyData.eqvAll]
    | cons z r ih =>
      intro ms
      cases ms with
      | nil => simp [PyData.eqvAll]
      | cons y t =>
        rw [List.map_cons, List.map_cons, PyData.eqvAll, ih t]
        have e1 : PyData.eqv (PyData.int z) (PyData.int y) = decide (z = y) := by
          rw [PyData.eqv]
          by_cases e : z = y
          · subst e; simp
          · simp [e]
        rw [e1]
        simp
  intro ns ms
  rw [PyData.eqv]
  exact key ns ms
theorem shaped_ints (ns : List Int) : SeqAt.shaped (.list (ns.map PyData.int)) = true := by
  have k1 : ∀ l : List Int, PyData.canLayAll0 (l.map PyData.int) = true := by
    intro l
    induction l with
    | nil => rw [List.map_nil, PyData.canLayAll0]
    | cons z r ih => rw [List.map_cons, PyData.canLayAll0, ih, PyData.canLay0]; rfl
  have k2 : ∀ l : List Int, PyData.depthAll (l.map PyData.int) = 0 := by
    intro l
    induction l with
    | nil => rw [List.map_nil, PyData.depthAll]
    | cons z r ih => rw [List.map_cons, PyData.depthAll, ih, PyData.depth]; rfl
  unfold SeqAt.shaped
  rw [PyData.canLay0, k1, PyData.depth, k2]
  rfl
section
variable {P : Program} {w : World} {K : PySem.W.Frag} {mg : Str → Option Value} {base : Heap}
end
end RK

/-! a comprehension over zip of three lists of one length -/
namespace L2
open PySem PySem.Spec PyProof.Rows
def Itz3 (K : PySem.W.Frag) (a b c : Addr) : It :=
  ⟨fun i H => ∃ (xs ys us : List V), SqL K H a xs ∧ SqL K H b ys ∧ SqL K H c us ∧ i < xs.length ∧ ys.length = xs.length ∧ us.length = xs.length,
    fun i H v H' => ∃ T x y u, v = .ref T ∧ H T = none ∧ H' = upd H T (.tup [x, y, u]) ∧ (∀ xs, SqL K H a xs → xs[i]? = some x) ∧ (∀ ys, SqL K H b ys → ys[i]? = some y) ∧ ∀ us, SqL K H c us → us[i]? = some u,
    fun i H => ∃ (xs ys us : List V), SqL K H a xs ∧ SqL K H b ys ∧ SqL K H c us ∧ xs.length = i ∧ ys.length = i ∧ us.length = i⟩
theorem turn_zip3 {P : Program} {w : World} {K : PySem.W.Frag} {elts : List Expr} {kk : Nat} {tpos : Pos} {a b c z TI TO i1 i2 i3 : Addr} (D : ZipSep3 z TI TO i1 i2 i3 [i1, a] [i2, b] [i3, c]) (na : a ≠ i1) (nb : b ≠ i2) (nc : c ≠ i3) :
    Turn P w K (.Tuple elts kk tpos) (Itz3 K a b c) [z, TI, TO, i1, i2, i3] z (fun i h => IsZip h z TI TO .none ∧ IsTupOf3 h TI (.ref i1) (.ref i2) (.ref i3) ∧ (∃ a1 a2 a3, IsTupOf3 h TO a1 a2 a3) ∧ h.IsListIter i1 a i ∧ h.IsListIter i2 b i ∧ h.IsListIter i3 c i) where
  mem := by simp
  obj := fun i h st e hc => by
    obtain ⟨hz, hTI, ⟨x, y, u, hTO⟩, ⟨o1, e1, _, d1⟩, ⟨o2, e2, _, d2⟩, ⟨o3, e3, _, d3⟩⟩ := st
    rcases (show e = z ∨ e = TI ∨ e = TO ∨ e = i1 ∨ e = i2 ∨ e = i3 by simpa using hc) with q | q | q | q | q | q
    · rw [q]; exact ⟨_, hz, fun v q => nomatch q⟩
    · rw [q]; exact ⟨_, hTI, fun v q => nomatch q⟩
    · rw [q]; exact ⟨_, hTO, fun v q => nomatch q⟩
    · rw [q]; exact ⟨o1, e1, fun v q => by rw [d1] at q; cases q⟩
    · rw [q]; exact ⟨o2, e2, fun v q => by rw [d2] at q; cases q⟩
    · rw [q]; exact ⟨o3, e3, fun v q => by rw [d3] at q; cases q⟩
  keep := fun i h h' st k => by
    obtain ⟨hz, hTI, ⟨x, y, u, hTO⟩, h1, h2, h3⟩ := st
    exact ⟨k z (by simp) _ hz, k TI (by simp) _ hTI, ⟨x, y, u, k TO (by simp) _ hTO⟩, h1.at fun o q => k i1 (by simp) o q, h2.at fun o q => k i2 (by simp) o q, h3.at fun o q => k i3 (by simp) o q⟩
  item := by
    intro X hP hw hK hc i pins s σ H E I hf st hg
    subst hP hw hK
    obtain ⟨hz, hTI, hTO, h1, h2, h3⟩ := st
    obtain ⟨xs, ys, us, qx, qy, qu, hi, ly, lu⟩ := hg
    obtain ⟨t1, rv1, p1, _⟩ := I.list qx
    obtain ⟨t2, rv2, p2, _⟩ := I.list qy
    obtain ⟨t3, rv3, p3, _⟩ := I.list qu
    have l1 := rv1.length
    have l2 := rv2.length
    have l3 := rv3.length
    have G := GoesN.zip3 (prog := X.prog) (w := X.w) (A := X.A) (elts := elts) (x1 := kk) (pos := tpos) D (Draws.list (A := X.A.in1) (I.ok.hd hc) i1 a na t1.toArray) (Draws.list (A := X.A.in1) (I.ok.hd hc) i2 b nb t2.toArray) (Draws.list (A := X.A.in1) (I.ok.hd hc) i3 c nc t3.toArray)
    refine G.goes i s _ E ?_ ⟨hz, hTI, hTO, ⟨h1, p1.isList⟩, ⟨h2, p2.isList⟩, ⟨h3, p3.isList⟩⟩ fun v h' tk hY hst hkeep htk => ?_
    · simp only [List.size_toArray]
      omega
    obtain ⟨T, x', y', u', rfl, hT, hx, hy, hu, o, hTo, hTc, nT, hTd⟩ := hY
    obtain ⟨hz', hTI', hTO', ⟨h1', _⟩, ⟨h2', _⟩, ⟨h3', _⟩⟩ := hst
    obtain ⟨x, ex, rx⟩ : ∃ x, xs[i]? = some x ∧ RelV x x' := by
      obtain ⟨w, hw, rw_⟩ := rv1.get (List.getElem?_eq_getElem hi)
      have : t1[i]? = some x' := by simpa using hx
      rw [this] at hw
      cases hw
      exact ⟨_, List.getElem?_eq_getElem hi, rw_⟩
    obtain ⟨y, ey, ry⟩ : ∃ y, ys[i]? = some y ∧ RelV y y' := by
      have hi2 : i < ys.length := by omega
      obtain ⟨w, hw, rw_⟩ := rv2.get (List.getElem?_eq_getElem hi2)
      have : t2[i]? = some y' := by simpa using hy
      rw [this] at hw
      cases hw
      exact ⟨_, List.getElem?_eq_getElem hi2, rw_⟩
    obtain ⟨u, eu, ru⟩ : ∃ u, us[i]? = some u ∧ RelV u u' := by
      have hi3 : i < us.length := by omega
      obtain ⟨w, hw, rw_⟩ := rv3.get (List.getElem?_eq_getElem hi3)
      have : t3[i]? = some u' := by simpa using hu
      rw [this] at hw
      cases hw
      exact ⟨_, List.getElem?_eq_getElem hi3, rw_⟩
    have new : ObjOk X.prog X.w (upd H T (.tup [x, y, u])) h' T (.tup [x, y, u]) := ⟨by show 3 ≤ sizeLine; decide, [x', y', u'], .cons rx (.cons ry (.cons ru .nil)), ⟨o, hTo, hTc, nT, hTd⟩⟩
    have I1 : Inv X pins σ (upd H T (.tup [x, y, u])) { s with heap := h', toks := tk } :=
      I.turnedNew (ch := [z, TI, TO, i1, i2, i3]) (fun e ob hb q => hkeep e ob (fun m => hb (by
        simp only [List.mem_cons, List.not_mem_nil, or_false] at m ⊢
        rcases m with m | m | m | m | m <;> simp [m])) q) hf hT new
    refine ⟨.ref T, _, I1, rfl, ⟨_, x, y, u, rfl, I.hok.fresh hT, rfl, fun l q => by rw [I.list_inj q qx]; exact ex, fun l q => by rw [I.list_inj q qy]; exact ey, fun l q => by rw [I.list_inj q qu]; exact eu⟩, ⟨hz', hTI', hTO', h1', h2', h3'⟩, fun e hb => ?_⟩
    have hb' : e < s.heap.objs.size := by
      obtain ⟨_, _, _, hTO⟩ := hTO
      rcases (show e = z ∨ e = TI ∨ e = TO ∨ e = i1 ∨ e = i2 ∨ e = i3 by simpa using hb) with q | q | q | q | q | q
      · rw [q]; exact Heap.lt_size hz
      · rw [q]; exact Heap.lt_size hTI
      · rw [q]; exact Heap.lt_size hTO
      · rw [q]; obtain ⟨_, q, _⟩ := h1; exact Heap.lt_size q
      · rw [q]; obtain ⟨_, q, _⟩ := h2; exact Heap.lt_size q
      · rw [q]; obtain ⟨_, q, _⟩ := h3; exact Heap.lt_size q
    rw [upd_ne (Nat.ne_of_lt (Nat.lt_of_lt_of_le hb' hT))]
    exact (hf e hb).1
  done := by
    intro X hP hw hK hc i pins s σ H E I hf st hg
    subst hP hw hK
    obtain ⟨hz, hTI, hTO, h1, h2, h3⟩ := st
    obtain ⟨xs, ys, us, qx, qy, qu, lx, ly, lu⟩ := hg
    obtain ⟨t1, rv1, p1, _⟩ := I.list qx
    obtain ⟨t2, rv2, p2, _⟩ := I.list qy
    obtain ⟨t3, rv3, p3, _⟩ := I.list qu
    have l1 := rv1.length
    have l2 := rv2.length
    have l3 := rv3.length
    have G := GoesN.zip3 (prog := X.prog) (w := X.w) (A := X.A) (elts := elts) (x1 := kk) (pos := tpos) D (Draws.list (A := X.A.in1) (I.ok.hd hc) i1 a na t1.toArray) (Draws.list (A := X.A.in1) (I.ok.hd hc) i2 b nb t2.toArray) (Draws.list (A := X.A.in1) (I.ok.hd hc) i3 c nc t3.toArray)
    have hn : i = min (min t1.toArray.size t2.toArray.size) t3.toArray.size := by
      simp only [List.size_toArray]
      omega
    rw [hn] at h1 h2 h3
    exact wpAny_mono (G.stops s (fun s1 => Inv X pins σ H s1) E ⟨hz, hTI, hTO, ⟨h1, p1.isList⟩, ⟨h2, p2.isList⟩, ⟨h3, p3.isList⟩⟩ fun h' tk hk htk => I.turnedL (ch := [z, TI, TO, i1, i2, i3]) (fun e o hb q => hk e o (fun m => hb (by
        simp only [List.mem_cons, List.not_mem_nil, or_false] at m ⊢
        rcases m with m | m | m | m | m <;> simp [m])) q) hf) (fun r s1 z => z) fun _ _ z => z
  self := fun A i s Q E st h => wpAny_pyIter_zip st.1 h
def iZip3 (K : PySem.W.Frag) (ta : TA) : TI := fun σ H R => ta σ H fun vs H1 => ∃ a b c xs ys us, vs = [.ref a, .ref b, .ref c] ∧ SqL K H1 a xs ∧ SqL K H1 b ys ∧ SqL K H1 c us ∧ R (Itz3 K a b c) H1
theorem pi_zip3 {X : Cx} {e e2 e3 : Expr} {ta : TA} {p pos tpos : Pos} {elts : List Expr} {kk : Nat} (hg : Gl X "zip") (hm : X.mg "zip" = none) (ha : PA X [e, e2, e3] ta)
    (hs : starEach [e, e2, e3] X.env = (false, eval e X.env) :: starEach [e2, e3] X.env := by rfl) (hpl : (backTo pos (starEach [e2, e3] X.env)).any (·.1) = false := by rfl) :
    PI X (.Tuple elts kk tpos) (.Call (.Name "zip" p) [e, e2, e3] [] pos) (iZip3 X.K ta) := by
  refine ⟨fun pins s σ H R I h => ?_⟩
  refine Call_ (ld_blt I hg hm PyProof.Rows.boot_zip (PyProof.Rows.callWith_type1 (thn (ha.run pos pins s σ H _ I h) fun us s1 ⟨vs, H1, I1, r1, q1⟩ => ?_) hs hpl))
  obtain ⟨a, b, c, xs, ys, us, rfl, qx, qy, qu, q⟩ := q1
  cases r1 with
  | cons r rr =>
    cases rr with
    | cons r' rr =>
      cases rr with
      | cons r'' rr =>
        cases rr
        cases r
        cases r'
        cases r''
        obtain ⟨t1, rv1, p1, _⟩ := I1.list qx
        obtain ⟨t2, rv2, p2, _⟩ := I1.list qy
        obtain ⟨t3, rv3, p3, _⟩ := I1.list qu
        have la := p1.lt
        have lb := p2.lt
        have lc := p3.lt
        refine zip_begins3 (begins_list a t1.toArray) (begins_list b t2.toArray) (begins_list c t3.toArray) p1.isList p2.isList p3.isList fun h' hz hTI hTO h1 h2 h3 hsz hk => wpAny_pyIter_zip hz ?_
        refine ⟨s1.heap.objs.size + 5, [s1.heap.objs.size + 5, s1.heap.objs.size + 3, s1.heap.objs.size + 4, s1.heap.objs.size, s1.heap.objs.size + 1, s1.heap.objs.size + 2], _, _, H1, rfl, I1.kept (t' := s1.toks) hk,
          turn_zip3 (zip_sep3 (N := s1.heap.objs.size) (fp1 := [a]) (fp2 := [b]) (fp3 := [c]) (fun d hd => by rw [List.mem_singleton.mp hd]; exact la) (fun d hd => by rw [List.mem_singleton.mp hd]; exact lb) (fun d hd => by rw [List.mem_singleton.mp hd]; exact lc))
            (Nat.ne_of_lt la) (Nat.ne_of_lt (Nat.lt_succ_of_lt lb)) (Nat.ne_of_lt (Nat.lt_succ_of_lt (Nat.lt_succ_of_lt lc))), ⟨hz, hTI, ⟨_, _, _, hTO⟩, ⟨_, h1, rfl, rfl⟩, ⟨_, h2, rfl, rfl⟩, ⟨_, h3, rfl, rfl⟩⟩, fun e he => ?_, q⟩
        have hle : s1.heap.objs.size ≤ e := by
          rcases (show e = s1.heap.objs.size + 5 ∨ e = s1.heap.objs.size + 3 ∨ e = s1.heap.objs.size + 4 ∨ e = s1.heap.objs.size ∨ e = s1.heap.objs.size + 1 ∨ e = s1.heap.objs.size + 2 by simpa using he) with z | z | z | z | z | z <;> rw [z]
          · exact Nat.le_add_right _ _
          · exact Nat.le_add_right _ _
          · exact Nat.le_add_right _ _
          · exact Nat.le_refl _
          · exact Nat.le_add_right _ _
          · exact Nat.le_add_right _ _
        exact I1.fpOk hle (I1.hok.fresh hle)
def YTri (xs ys us : Nat → Option V) : Nat → Hp → V → Hp → Prop := fun i H v H' => ∃ T x y u, v = .ref T ∧ H T = none ∧ H' = upd H T (.tup [x, y, u]) ∧ xs i = some x ∧ ys i = some y ∧ us i = some u
theorem walk_zip3 {K : PySem.W.Frag} {a b c : Addr} {xs ys us : List V} (hy : ys.length = xs.length) (hu : us.length = xs.length) : Walk (Itz3 K a b c) xs.length (fun H => SqL K H a xs ∧ SqL K H b ys ∧ SqL K H c us) (YTri (fun i => xs[i]?) (fun i => ys[i]?) (fun i => us[i]?)) := by
  refine ⟨fun i _ hi q => ⟨xs, ys, us, q.1, q.2.1, q.2.2, hi, hy, hu⟩, fun _ q => ⟨xs, ys, us, q.1, q.2.1, q.2.2, rfl, hy, hu⟩, fun i H v H' _ q y => ?_⟩
  obtain ⟨T, x, z, u, h1, h2, h3, h4, h5, h6⟩ := y
  exact ⟨T, x, z, u, h1, h2, h3, h4 xs q.1, h5 ys q.2.1, h6 us q.2.2⟩
end L2

namespace RK
open PySem L2
/-! ### drawn stands -/
theorem perm_ints {ys : List V} {l : List Int} (h : ys.Perm (l.map V.int)) : ∃ rs : List Int, rs.Perm l ∧ ys = rs.map V.int := by
  have un : ∀ x ∈ ys, ∃ i, x = V.int i := fun x hx => by
    obtain ⟨i, _, e⟩ := List.mem_map.mp (h.mem_iff.mp hx)
    exact ⟨i, e.symm⟩
  let f : V → Int := fun v => match v with | .int i => i | _ => 0
  refine ⟨ys.map f, ?_, ?_⟩
  · have := h.map f
    rwa [List.map_map, show (f ∘ V.int) = id from rfl, List.map_id] at this
  · rw [List.map_map]
    refine (List.map_id ys).symm.trans (List.map_congr_left fun x hx => ?_)
    obtain ⟨i, rfl⟩ := un x hx
    rfl
theorem getD_range {l : List Int} {n : Nat} (h : l.length = n) : (List.range n).map (fun i => l.getD i 0) = l := by
  refine List.ext_getElem (by rw [List.length_map, List.length_range, h]) fun i h1 h2 => ?_
  rw [List.getElem_map, List.getElem_range, List.getD_eq_getElem?_getD, List.getElem?_eq_getElem h2]
  rfl
theorem idx_map {zs : List Str} (nd : zs.Nodup) (f : Nat → Int) : zs.map (fun z => f (zs.idxOf z)) = (List.range zs.length).map f := by
  refine List.ext_getElem (by rw [List.length_map, List.length_map, List.length_range]) fun i h1 h2 => ?_
  rw [List.getElem_map, List.getElem_map, List.getElem_range]
  rw [List.length_map] at h1
  rw [nd.idxOf_getElem i h1]
theorem sum_lin (f h : Nat → Int) (c : Int) : ∀ l : List Nat, (l.map fun i => f i + c * h i).sum = (l.map f).sum + c * (l.map h).sum
  | [] => by simp
  | x :: r => by
    rw [List.map_cons, List.map_cons, List.map_cons, List.sum_cons, List.sum_cons, List.sum_cons, sum_lin f h c r, Int.mul_add]
    omega
theorem perm_sum {l m : List Int} (h : l.Perm m) : l.sum = m.sum := by
  induction h with
  | nil => rfl
  | cons x _ ih => rw [List.sum_cons, List.sum_cons, ih]
  | swap x y l => rw [List.sum_cons, List.sum_cons, List.sum_cons, List.sum_cons]; omega
  | trans _ _ h1 h2 => exact h1.trans h2
def lapG (zs : List Str) (rs ls : List Int) (z : Str) : Int := rs.getD (zs.idxOf z) 0 + (zs.length : Int) * ls.getD (zs.idxOf z) 0
theorem lap_sta {zs : List Str} {rs ls : List Int} (nd : zs.Nodup) (h2 : 2 ≤ zs.length) (hr : rs.Perm ((List.range zs.length).map fun i => ((i : Nat) : Int))) (hl : ls.length = zs.length) (h0 : ls.sum = 0) : Sta zs zs (kvOf zs (lapG zs rs ls)) := by
  have lr : rs.length = zs.length := by rw [hr.length_eq, List.length_map, List.length_range]
  refine Sta.mk' (List.Perm.refl _) ?_ ?_
  · have e : zs.map (lapG zs rs ls) = _ := idx_map nd (fun i => rs.getD i 0 + (zs.length : Int) * ls.getD i 0)
    rw [e, sum_lin (fun i => rs.getD i 0) (fun i => ls.getD i 0), getD_range lr, getD_range hl, h0, Int.mul_zero, Int.add_zero, ← half_sum]
    exact perm_sum hr
  · have e : (zs.map fun u => lapG zs rs ls u % (zs.length : Int)) = (List.range zs.length).map fun i => (rs.getD i 0 + (zs.length : Int) * ls.getD i 0) % (zs.length : Int) := idx_map nd (fun i => (rs.getD i 0 + (zs.length : Int) * ls.getD i 0) % (zs.length : Int))
    rw [e]
    have e2 : ((List.range zs.length).map fun i => (rs.getD i 0 + (zs.length : Int) * ls.getD i 0) % (zs.length : Int)) = rs := by
      refine Eq.trans (List.map_congr_left fun i hi => ?_) (getD_range lr)
      have hi' := List.mem_range.mp hi
      have hm : rs.getD i 0 ∈ rs := by
        rw [List.getD_eq_getElem?_getD, List.getElem?_eq_getElem (by omega)]
        exact List.getElem_mem _
      obtain ⟨j, hj, ej⟩ := List.mem_map.mp (hr.mem_iff.mp hm)
      have hj' := List.mem_range.mp hj
      rw [Int.add_mul_emod_self_left]
      exact Int.emod_eq_of_lt (by omega) (by omega)
    rw [e2]
    refine (hr.nodup_iff).mpr ?_
    refine List.Pairwise.map _ (fun a b h => ?_) List.nodup_range
    intro q
    exact h (by omega)
theorem sum_le {N : Nat} : ∀ {ls : List Int}, (∀ x ∈ ls, x.natAbs ≤ N) → ls.sum.natAbs ≤ ls.length * N
  | [], _ => by simp
  | x :: r, h => by
    have ih := sum_le (ls := r) fun y hy => h y (List.mem_cons_of_mem _ hy)
    have := h x List.mem_cons_self
    rw [List.sum_cons, List.length_cons, Nat.add_mul]
    omega
theorem laps_le {N : Nat} {ls : List Int} (h : ∀ x ∈ ls, x.natAbs ≤ N) (hl : ls.length ≤ 100) : ∀ x ∈ ls ++ [0 - ls.sum], x.natAbs ≤ 100 * N := fun x hx => by
  rcases List.mem_append.mp hx with q | q
  · have := h x q
    omega
  · rw [List.mem_singleton.mp q]
    have h1 := sum_le h
    have h2 := Nat.mul_le_mul_right N hl
    omega
theorem lap_le {zs : List Str} {rs ls : List Int} {N : Nat} (hr : rs.Perm ((List.range zs.length).map fun i => ((i : Nat) : Int))) (hl : zs.length ≤ 100) (h : ∀ x ∈ ls, x.natAbs ≤ 100 * N) (hN : N < 400000000000000000) (z : Str) : (lapG zs rs ls z).natAbs < 2 ^ 100 := by
  have h1 : (rs.getD (zs.idxOf z) 0).natAbs ≤ 100 := by
    rw [List.getD_eq_getElem?_getD]
    cases e : rs[zs.idxOf z]? with
    | none => simp
    | some x =>
      have hm := hr.mem_iff.mp (List.mem_of_getElem? e)
      obtain ⟨i, hi, rfl⟩ := List.mem_map.mp hm
      have := List.mem_range.mp hi
      show ((i : Nat) : Int).natAbs ≤ 100
      omega
  have h2 : (ls.getD (zs.idxOf z) 0).natAbs ≤ 100 * N := by
    rw [List.getD_eq_getElem?_getD]
    cases e : ls[zs.idxOf z]? with
    | none => simp
    | some x => exact h x (List.mem_of_getElem? e)
  have h3 : ((zs.length : Int) * ls.getD (zs.idxOf z) 0).natAbs ≤ 100 * (100 * N) := by
    rw [Int.natAbs_mul, Int.natAbs_natCast]
    exact Nat.mul_le_mul hl h2
  unfold lapG
  have h4 : (2 : Nat) ^ 100 = 1267650600228229401496703205376 := by decide
  rw [h4]
  omega
def spWStand : Sp := fun vs H Q _ => ∃ (a n : Addr) (zs : List Str) (N m : Nat), vs = [.ref a, .ref n, .int (N : Nat)] ∧ a ≠ n ∧ SpAt H a m ∧ m < 1000000000 ∧ H n = some (.lst (zs.map V.str)) ∧ zs.Nodup ∧ 2 ≤ zs.length ∧ zs.length ≤ 100 ∧ N < 400000000000000000 ∧
  ∀ e kvs H', H' e = some (.dK kvs) → Sta zs zs kvs → (∀ z ∈ zs, (placeOf kvs z).natAbs < 2 ^ 100) → e ≠ a → SpAt H' a (m + 1000) → But a H H' → Q (.ref e) H'
section
variable {P : Program} {w : World} {K : PySem.W.Frag} {mg : Str → Option Value} {base : Heap}
end
end RK

namespace RK
open PySem L2
/-! ### things that are no stands -/
/-- a value of one of these dicts -/
inductive Val1 (H : Hp) : V → Prop where
  | non : Val1 H .non
  | int (i : Int) : Val1 H (.int i)
  | bl (b : Bool) : Val1 H (.bl b)
  | str {z : Str} (h : z.length ≤ 1000) : Val1 H (.str z)
  | lst {a : Addr} {i : Int} (e : H a = some (.lst [.int i])) : Val1 H (.ref a)
  | tup {a : Addr} {i : Int} (e : H a = some (.tup [.int i])) : Val1 H (.ref a)
theorem Val1.mono {H H' : Hp} {v : V} (h : Val1 H v) (s : ∀ b o, (∀ kvs, o ≠ .dK kvs) → H b = some o → H' b = some o) : Val1 H' v := by
  cases h with
  | non => exact .non
  | int i => exact .int i
  | bl b => exact .bl b
  | str h => exact .str h
  | lst e => exact .lst (s _ _ (fun _ z => nomatch z) e)
  | tup e => exact .tup (s _ _ (fun _ z => nomatch z) e)
theorem Val1.th {K : PySem.W.Frag} {H : Hp} {v : V} (h : Val1 H v) : ∃ k, Th K H v k := by
  cases h with
  | non => exact ⟨_, .non⟩
  | int i => exact ⟨_, .int i⟩
  | bl b => exact ⟨_, .bl b⟩
  | str h => exact ⟨_, .str h⟩
  | lst e => exact ⟨_, .lst e⟩
  | tup e => exact ⟨_, .tup e⟩
theorem Val1.same {H : Hp} {v : V} (h : Val1 H v) : SameD H 1 v v := by
  have one : ∀ {i : Int} (j : Nat) (x y : V), [V.int i][j]? = some x → [V.int i][j]? = some y → SameD H 0 x y := fun {i} j x y e1 e2 => by
    match j, e1, e2 with
    | 0, e1, e2 => cases e1; cases e2; exact .int i
  cases h with
  | non => exact .non
  | int i => exact .int i
  | bl b => exact .bl b
  | str h => exact .str h
  | lst e => exact .lst e e rfl (by show 1 ≤ 1000; decide) one
  | tup e => exact .tup e e rfl (by show 1 ≤ 1000; decide) one
/-- a plain thing, or a new dict of texts -/
def OddP (K : PySem.W.Frag) (H0 H : Hp) (b : Nat) (v : V) : Prop :=
  (∃ k, Th K H v k ∧ k.isDict = false ∧ SameD H 2 v v) ∨ ∃ d kvs, v = .ref d ∧ H0 d = none ∧ H d = some (.dK kvs) ∧ kvs.length ≤ b ∧ ∀ kv ∈ kvs, keyOk kv.1 ∧ Val1 H kv.2
theorem OddP.mono {K : PySem.W.Frag} {H0 H H' : Hp} {b : Nat} {v : V} (h : OddP K H0 H b v) (s : Same H H') : OddP K H0 H' b v := by
  rcases h with ⟨k, h1, h2, h3⟩ | ⟨d, kvs, e, h1, h2, h3, h4⟩
  · exact .inl ⟨k, h1.same s, h2, h3.mono s⟩
  · exact .inr ⟨d, kvs, e, h1, s _ _ h2, h3, fun kv hkv => ⟨(h4 kv hkv).1, (h4 kv hkv).2.mono fun b o _ e => s _ _ e⟩⟩
theorem put_all {Pk : Key → Prop} {Pv : V → Prop} {kvs : List (Key × V)} {k : Key} {v : V} (h : ∀ kv ∈ kvs, Pk kv.1 ∧ Pv kv.2) (hk : Pk k) (hv : Pv v) : (∀ kv ∈ putK kvs k v, Pk kv.1 ∧ Pv kv.2) ∧ (putK kvs k v).length ≤ kvs.length + 1 := by
  unfold putK
  split
  · refine ⟨fun kv hkv => ?_, by rw [List.length_map]; omega⟩
    obtain ⟨kv', hm, rfl⟩ := List.mem_map.mp hkv
    split
    · exact ⟨(h kv' hm).1, hv⟩
    · exact h kv' hm
  · refine ⟨fun kv hkv => ?_, by rw [List.length_append]; exact Nat.le_refl _⟩
    rcases List.mem_append.mp hkv with hm | hm
    · exact h kv hm
    · rw [List.mem_singleton.mp hm]; exact ⟨hk, hv⟩
theorem merge_all {Pk : Key → Prop} {Pv : V → Prop} : ∀ {more kvs : List (Key × V)}, (∀ kv ∈ kvs, Pk kv.1 ∧ Pv kv.2) → (∀ kv ∈ more, Pk kv.1 ∧ Pv kv.2) → (∀ kv ∈ mergeK kvs more, Pk kv.1 ∧ Pv kv.2) ∧ (mergeK kvs more).length ≤ kvs.length + more.length
  | [], kvs, h, _ => ⟨h, Nat.le_refl _⟩
  | x :: r, kvs, h, hm => by
    have p := put_all h (hm x List.mem_cons_self).1 (hm x List.mem_cons_self).2
    have q := merge_all (more := r) p.1 fun kv hkv => hm kv (List.mem_cons_of_mem _ hkv)
    exact ⟨q.1, Nat.le_trans q.2 (by rw [List.length_cons]; omega)⟩
theorem odd_dict {K : PySem.W.Frag} {H0 H : Hp} {b : Nat} {d : Addr} {kvs : List (Key × V)} (h0 : H0 d = none) (hd : H d = some (.dK (mergeK [] kvs))) (hl : kvs.length ≤ b) (h : ∀ kv ∈ kvs, keyOk kv.1 ∧ Val1 H kv.2) : OddP K H0 H b (.ref d) := by
  have q := merge_all (Pk := keyOk) (Pv := Val1 H) (kvs := []) (fun _ z => nomatch z) h
  exact .inr ⟨d, _, rfl, h0, hd, Nat.le_trans q.2 (by rw [List.length_nil]; omega), q.1⟩
/-- a list of pairs that stand for keys and values -/
def LP (H : Hp) (C : Addr) (ts : List Addr) (kvs : List (Key × V)) : Prop := H C = some (.lst (ts.map V.ref)) ∧ Paired (fun (t : Addr) (kv : Key × V) => H t = some (.tup [kV kv.1, kv.2])) ts kvs
theorem LP.mono {H H' : Hp} {C : Addr} {ts : List Addr} {kvs : List (Key × V)} (h : LP H C ts kvs) (s : Same H H') : LP H' C ts kvs := ⟨s _ _ h.1, Paired.mono (fun _ _ e => s _ _ e) h.2⟩
theorem paired_app {α β : Type} {F : α → β → Prop} : ∀ {l₁ m₁ : List α} {l₂ m₂ : List β}, Paired F l₁ l₂ → Paired F m₁ m₂ → Paired F (l₁ ++ m₁) (l₂ ++ m₂)
  | _, _, _, _, .nil, h => h
  | _, _, _, _, .cons r t, h => .cons r (paired_app t h)
/-- the heap without one address -/
def no (H : Hp) (l : Addr) : Hp := fun b => if b = l then none else H b
theorem no_ne {H : Hp} {l b : Addr} (h : b ≠ l) : no H l b = H b := if_neg h
theorem no_same {H : Hp} {l : Addr} : Same (no H l) H := fun b o e => by
  by_cases h : b = l
  · rw [h] at e
    exact absurd ((if_pos rfl : no H l l = none).symm.trans e) (fun z => nomatch z)
  · rw [no_ne h] at e; exact e
theorem no_but {H H' : Hp} {l : Addr} (b : But l H H') : Same (no H l) (no H' l) := fun c o e => by
  by_cases h : c = l
  · rw [h] at e
    exact absurd ((if_pos rfl : no H l l = none).symm.trans e) (fun z => nomatch z)
  · rw [no_ne h] at e ⊢; exact b _ _ h e
/-- one more thing in the list at l -/
theorem one_more {K : PySem.W.Frag} {H0 G G' : Hp} {l : Addr} {vs : List V} {v : V} {b : Nat} (h : ∀ u ∈ vs, OddP K H0 (no G l) b u) (hb : But l G G') (hv : OddP K H0 (no G' l) b v) :
    ∀ u ∈ vs ++ [v], OddP K H0 (no (upd G' l (.lst (vs ++ [v]))) l) b u := fun u hu => by
  have e : Same (no G' l) (no (upd G' l (.lst (vs ++ [v]))) l) := no_but But.upd
  rcases List.mem_append.mp hu with m | m
  · exact ((h u m).mono (no_but hb)).mono e
  · rw [List.mem_singleton.mp m]; exact hv.mono e
theorem new_dict {K : PySem.W.Frag} {H0 G : Hp} {l d : Addr} {kvs : List (Key × V)} {b : Nat} (h0 : H0 d = none) (hd : G d = none) (hl : G l ≠ none) (hb : kvs.length ≤ b) (h : ∀ kv ∈ kvs, keyOk kv.1 ∧ Val1 (no G l) kv.2) :
    OddP K H0 (no (upd G d (.dK (mergeK [] kvs))) l) b (.ref d) := by
  have hdl : d ≠ l := fun z => hl (by rw [← z]; exact hd)
  refine odd_dict h0 (by rw [no_ne hdl, upd_same]) hb fun kv hkv => ⟨(h kv hkv).1, (h kv hkv).2.mono fun c o _ e => no_but (Same.but (same_upd hd)) c o e⟩
section
variable {P : Program} {w : World} {K : PySem.W.Frag} {mg : Str → Option Value} {base : Heap}
end
end RK

/-! promises of defs that ask repr of containers: nothing is being shown when they are called -/
namespace L2
open PySem PySem.Spec PyProof.Rows
/-- as FnOk, of calls from where no repr runs -/
structure FnG (P : Program) (w : World) (K : PySem.W.Frag) (mg : Str → Option Value) (base : Heap) (CX : CXT) (k : Nat) (f : Addr) (fd : FuncData) (ps : List Str) (sp : Sp) : Prop where
  len : ∀ vs H Q E, sp vs H Q E → vs.length = ps.length
  run : ∀ (A : Around) (outer : List Env) (u : Shared) (H : Hp) (args : Args) (us : List Value) (vs : List V) (Q : VK) (E : XK), Room k A → A.guards = some [] → Env0 P w K mg base A outer u H → BindsTo u fd args (ps.zip us) → Vals vs us → sp vs H Q E →
    codeAny (model P w) A (.call (.ref f) args) (CR CX outer P w H u Q E) u
section
variable {P : Program} {w : World} {K : PySem.W.Frag} {mg : Str → Option Value} {base : Heap} {CX : CXT} {k : Nat} {f : Addr} {fd : FuncData} {ps : List Str} {sp : Sp}
theorem FnOk.toG (F : FnOk P w K mg base CX k f fd ps sp) : FnG P w K mg base CX k f fd ps sp := ⟨F.len, fun A outer u H args us vs Q E hr _ => F.run A outer u H args us vs Q E hr⟩
theorem guards_deeper {A : Around} {env : Env} (h : A.guards = some []) : (A.deeper env).guards = some [] := h
theorem fn_g {name qual : Str} {params : Arguments} {body : List Stmt} {scope : Scope} {dV kV doc pm cdv ct oc : Value} {an od : Option Addr} {osl : Array (Option Value)} {N : List Str}
    (lk : K.lookup f = some ⟨oc, od, .func (PySem.W.fnOf name qual params body scope dV kV doc pm an cdv ct), osl⟩) (hcd : PySem.W.codeIn K cdv qual = true) (S : FnScope N ps scope) (len : ∀ vs H Q E, sp vs H Q E → vs.length = ps.length)
    (reads : ∀ (A : Around) (outer : List Env) (u : Shared) (H : Hp) (vs : List V) (Q : VK) (E : XK), Room k (A.deeper (envOfC qual scope u.heap.objs.size f cdv)) → (A.deeper (envOfC qual scope u.heap.objs.size f cdv)).guards = some [] → sp vs H Q E →
      ∃ t, PSs (cxOf CX P w K mg base N qual scope f cdv A outer u H E) body t ∧ t { nx := fun _ H' => Q .non H', rt := Q } (start N vs) H) :
    FnG P w K mg base CX (k + 1) f (PySem.W.fnOf name qual params body scope dV kV doc pm an cdv ct) ps sp := by
  refine ⟨len, fun A outer u H args us vs Q E room quiet e0 binds rel promise => ?_⟩
  have count := len _ _ _ _ promise
  have kept : K.In u.heap := e0.mod.kin.keeps fun b o e => (e0.bs b o e).1
  have nolim : u.heap.NoLimit := e0.mod.nolimit.keeps fun b o e => (e0.bs b o e).1
  have places : ∀ y ∈ ps.zip us, scope.names.lookup y.1 = some .local ∨ (scope.names.lookup y.1 = some .cell ∧ ((cellsFrom (u.heap.objs.size + 1) scope.names []).lookup y.1).isSome = true) := fun ⟨n, v⟩ hy => (S.par n (List.of_mem_zip hy).1).imp id fun q => ⟨q, PySem.W.cellsFrom_some _ _ _ (.inl q)⟩
  refine codeAny_call_function room.depth (kept _ _ lk) rfl S.co S.gen rfl (PySem.W.codeRec_of kept hcd) (binds _ _ _ _ (wpAny_newFunctionEnv_cells S.kind places fun env he u1 x => ?_))
  subst he
  obtain ⟨t, ht, hq⟩ := reads A outer u H vs Q E (room.deeper _) (guards_deeper quiet) promise
  refine ⟨nolim.keeps x.toInCall.keep, codeAny_func (wpAny_mono (ht.run [] u1 (start N vs) H _ (inv_start S room.hd e0 count rel x) hq) (fun fl u' hs => ?_) fun _ _ hs => hs)⟩
  have told : ∀ {ρ : St} {H' : Hp} {v : V} {z : Value}, Inv (cxOf CX P w K mg base N qual scope f cdv A outer u H E) [] ρ H' u' → RelV v z → Q v H' → CE outer P w H u Q z u' := fun {ρ H' v z} J rv q => ⟨v, H', J.os, J.bare, J.base, J.hok, rv, q⟩
  match fl, hs with
  | .ret z, ⟨v, ρ, H', J, rv, q⟩ => exact told J rv q
  | .next, ⟨ρ, H', J, q⟩ => exact told (v := V.non) (z := Value.none) J rfl q
  | .brk, ⟨_, _, _, q⟩ => exact False.elim q
  | .cont, ⟨_, _, _, q⟩ => exact False.elim q
end
section
variable {X : Cx} {CX : CXT} {k : Nat} {f : Addr} {fd : FuncData} {ps : List Str} {sp : Sp} {dvs : List V} {ds : List Value} {E : XK} {x : Str} {p pos : Pos} {e : Expr} {es : List Expr} {t : TA}
theorem run_g {pins : List (Addr × Obj)} {σ : St} {H : Hp} {s : Shared} {Q : VK} {us : List Value} {vs : List V} (F : FnG X.prog X.w X.K X.mg X.base CX k f fd ps sp) (room : Room k X.A) (quiet : X.A.guards = some []) (hb : Binds X.K fd ps ds) (hd : Vals dvs ds) (hx : Passes CX X E)
    (I : Inv X pins σ H s) (r : Vals vs us) (h : sp (vs ++ dvs) H Q E) : wpAny (model X.prog X.w) X.A (call (.ref f) us) (EP X pins σ Q) X.xe s := by
  have r2 := r.append hd
  have count : (us ++ ds).length = ps.length := r2.length ▸ F.len _ _ _ _ h
  refine wpAny_call (codeAny_mono (F.run X.A X.stack s H ⟨us, []⟩ (us ++ ds) (vs ++ dvs) Q E room quiet I.env0 (hb s us I.kIn count) r2 h) fun r s' hq => ?_)
  match r, hq with
  | .error e, hq => exact hx pins σ H s e s' I hq
  | .ok (.ret u), hq => exact I.after hq
  | .ok .next, hq => exact False.elim hq
  | .ok .brk, hq => exact False.elim hq
  | .ok .cont, hq => exact False.elim hq
theorem pe_callG (F : FnG X.prog X.w X.K X.mg X.base CX k f fd ps sp) (room : Room k X.A) (quiet : X.A.guards = some []) (hg : Gl X x) (hm : X.mg x = some (.ref f)) (hk : PySem.W.keepIn X.K (.ref f) = true) (hb : Binds X.K fd ps ds) (hd : Vals dvs ds) (hx : Passes CX X E) (ha : PA X (e :: es) t)
    (hdb : (x == ("__debug__" : Str)) = false := by decide) (he : starEach (e :: es) X.env = (false, eval e X.env) :: starEach es X.env := by rfl) (hpl : (backTo pos (starEach es X.env)).any (·.1) = false := by rfl) :
    PE X (.Call (.Name x p) (e :: es) [] pos) (tCall sp dvs E t) :=
  ⟨fun pins s σ H Q I h => wpAny_Call_Name_kw (ld_glob I hg hm (PySem.W.callWith_K (h₀ := X.base) I.ok.mod.kin hk (thn (ha.run pos pins s σ H _ I h) fun us s1 ⟨vs, H1, I1, r, q⟩ => ⟨I1.kIn, run_g F room quiet hb hd hx I1 r q⟩) he hpl) hdb)⟩
end
section
variable {P : Program} {w : World} {K : PySem.W.Frag} {mg : Str → Option Value} {base : Heap}
theorem Fun.okG {x qual : Str} {st : Stmt} {f : Addr} {fd : FuncData} {N ps : List Str} {k : Nat} {sp : Sp} (F : Fun K x qual st f fd) (S : FnScope N ps (defScope st)) (len : ∀ vs H Q E, sp vs H Q E → vs.length = ps.length)
    (reads : ∀ (cdv : Value) (A : Around) (outer : List Env) (u : Shared) (H : Hp) (vs : List V) (Q : VK) (E : XK), Room k (A.deeper (envOfC qual (defScope st) u.heap.objs.size f cdv)) → (A.deeper (envOfC qual (defScope st) u.heap.objs.size f cdv)).guards = some [] → sp vs H Q E →
      ∃ t, PSs (cxOf CX0 P w K mg base N qual (defScope st) f cdv A outer u H E).nox (defBody st) t ∧ t { nx := fun _ H' => Q .non H', rt := Q } (start N vs) H) : FnG P w K mg base CX0 (k + 1) f fd ps sp := by
  obtain ⟨oc, od, kV, doc, pm, an, cdv, ct, osl, rfl, lk, hcd⟩ := F.ex
  exact fn_g lk hcd S len fun A outer u H vs Q E room quiet promise => let ⟨t, h, q⟩ := reads cdv A outer u H vs Q E room quiet promise; ⟨t, h.nox, q⟩
end
end L2

/-! a def called by the names of all its parameters -/
namespace L2
open PySem PySem.Spec PyProof.Rows
section
variable {X : Cx} {CX : CXT} {k : Nat} {f : Addr} {fd : FuncData} {ps ks : List Str} {sp : Sp} {E : XK} {x : Str} {p pos : Pos} {kws : List Keyword} {tk : TA} {g : List Value → List Value → List Value} {gV : List V → List V → List V}
theorem pe_callK0 (F : FnOk X.prog X.w X.K X.mg X.base CX k f fd ps sp) (hr : Room k X.A) (hg : Gl X x) (hm : X.mg x = some (.ref f)) (hk : PySem.W.keepIn X.K (.ref f) = true) (hb : KBn X.K fd ps 0 ks g gV) (hx : Passes CX X E) (hkw : PK X kws tk)
    (named : (backToKw pos (keywordEach kws X.env)).all (·.1.isSome) = true := by rfl) (names : (backToKw pos (keywordEach kws X.env)).filterMap (·.1) = ks := by rfl) (hdb : (x == ("__debug__" : Str)) = false := by decide)
    (plain : ((backTo pos (starEach [] X.env)).any (·.1) || (backToKw pos (keywordEach kws X.env)).any (·.1.isNone)) = false := by rfl) :
    PE X (.Call (.Name x p) [] kws pos) (tCallN 0 ks.length sp gV E tNil tk) :=
  ⟨fun pins s σ H Q I h => wpAny_Call_Name_kw (ld_glob I hg hm (PySem.W.callWith_KW0 (h₀ := X.base) I.ok.mod.kin hk named (thn (hkw.run pos pins s σ H _ I h) fun ws s2 ⟨zs, H2, I2, rz, l1, l2, q2⟩ =>
    ⟨I2.kIn, by rw [names]; exact run_fnN (us := []) (vs := []) F hr hb hx I2 .nil rz rfl l2 q2⟩) plain) hdb)⟩
end
end L2

/-! repr of a dict of integers -/
namespace L2
open PySem PySem.Spec PyProof.Rows
def keyD : Key → PyData
  | .inl i => .int i
  | .inr z => .str z
def valD : V → PyData
  | .int i => .int i
  | _ => .none
def dictD (kvs : List (Key × V)) : PyData := .dict (kvs.map fun kv => (keyD kv.1, valD kv.2))
theorem pairs_read {P : Program} {w : World} {h : Heap} : ∀ {es : List DictEntry} {vs : List (Key × Value)} {kvs : List (Key × V)}, Pairs (mixKind P w) es vs → KV kvs vs → (∀ kv ∈ kvs, ∃ i : Int, kv.2 = .int i) →
    ReadsAll h (es.map (·.key)) ((kvs.map fun kv => (keyD kv.1, valD kv.2)).map (·.1)) [] ∧ ReadsAll h (es.map (·.val)) ((kvs.map fun kv => (keyD kv.1, valD kv.2)).map (·.2)) []
  | _, _, _, .nil, .nil, _ => ⟨.nil, .nil⟩
  | e :: _, c :: _, (k, v) :: kvs, .cons h1 h2 h3, .cons g1 g2, hi => by
    obtain ⟨i, hv⟩ := hi _ List.mem_cons_self
    have ih := pairs_read (h := h) h3 g2 fun kv hkv => hi kv (List.mem_cons_of_mem _ hkv)
    obtain ⟨e1, e2⟩ := g1
    have hv' : v = .int i := hv
    subst hv'
    refine ⟨?_, ?_⟩
    · refine ReadsAll.cons (as := []) (bs := []) ?_ ih.1
      show Reads h e.key (keyD k) []
      have hk : k = c.1 := e1
      rcases keyIs_shape (show keyIs c.1 e.key = true from h1) with ⟨j, t, ek, ev⟩ | ⟨z, t, ek, ev⟩
      · rw [ev, hk, ek]
        exact Reads.int j t
      · rw [ev, hk, ek]
        exact Reads.str z t
    · refine ReadsAll.cons (as := []) (bs := []) ?_ ih.2
      show Reads h e.val (.int i) []
      obtain ⟨t, et⟩ := (show RelV (V.int i) c.2 from e2)
      rw [h2, et]
      exact Reads.int i t
theorem depth_kv : ∀ kvs : List (Key × V), PyData.depthKv (kvs.map fun kv => (keyD kv.1, valD kv.2)) = 0
  | [] => rfl
  | (k, v) :: r => by
    rw [List.map_cons, PyData.depthKv, depth_kv r]
    have e1 : (keyD k).depth = 0 := by cases k <;> rfl
    have e2 : (valD v).depth = 0 := by cases v <;> rfl
    rw [e1, e2]
    rfl
theorem depth_dict (kvs : List (Key × V)) : (dictD kvs).depth = 1 := by
  unfold dictD
  rw [PyData.depth, depth_kv]
def rReprD : List V → Hp → VK → Prop := fun xs H Q => ∃ (a : Addr) (kvs : List (Key × V)), xs = [.ref a] ∧ H a = some (.dK kvs) ∧ (∀ kv ∈ kvs, ∃ i : Int, kv.2 = .int i) ∧ (dictD kvs).showable = true ∧ (dictD kvs).shown.length ≤ sizeLine ∧ Q (.str (dictD kvs).shown) H
theorem call_reprD {X : Cx} (quiet : X.A.guards = some []) (hu : X.A.units + 40 < cLine) : CallR X (.builtin "repr") rReprD := by
  intro pins s σ H xs us Q I r h
  obtain ⟨a, kvs, rfl, ha, hint, hshow, hsize, q⟩ := h
  cases r with
  | cons r1 r2 =>
    cases r2
    cases r1
    obtain ⟨hlen, hsys, vs, kv, o, es, ep, ho, hex, hdat, hkeys, hpairs, hnd⟩ := I.hok a _ ha
    obtain ⟨k1, k2⟩ := pairs_read (h := s.heap) hpairs kv hint
    have rd : Reads s.heap (.ref a) (dictD kvs) (a :: [] ++ []) := Reads.dict ho hex.1 hdat k1 k2
    refine repr_of_reads' rd hshow (fun _ hm => ?_) quiet (by rw [depth_dict]; omega) (fun _ _ e => e) (fun h' u tk hk => ⟨.str (dictD kvs).shown, H, I.kept fun b o e => hk b o e, ⟨u, rfl⟩, q⟩) hsize
    simp at hm
    simp [hm] at hsys
end L2

/-! the text of a dict of integers is short -/
namespace L2
open PySem PySem.Spec PyProof.Rows
theorem piled_le {B : Nat} : ∀ {ts : List Str}, (∀ t ∈ ts, t.length ≤ B) → piled ts ≤ ts.length * (B + 2)
  | [], _ => by simp [piled]
  | t :: r, h => by
    have ih := piled_le (ts := r) fun u hu => h u (List.mem_cons_of_mem _ hu)
    have := h t List.mem_cons_self
    rw [piled_cons, List.length_cons, Nat.add_mul]
    omega
theorem dictText_le {B : Nat} {ts : List Str} (h : ∀ t ∈ ts, t.length ≤ B) : (dictText ts).length ≤ 2 + ts.length * (B + 2) := by
  have e : (dictText ts).length = 1 + (Str.join ", " ts).length + 1 := by
    unfold dictText
    rw [strLen_append, strLen_append]
    rfl
  by_cases hn : ts = []
  · subst hn
    rw [e]
    show 1 + 0 + 1 ≤ 2 + 0 * (B + 2)
    omega
  · have h2 := join_length_add ts hn
    have h3 := piled_le h
    omega
theorem shownKv_eq2 : ∀ kvs : List (Key × V), PyData.shownKv (kvs.map fun kv => (keyD kv.1, valD kv.2)) = kvs.map fun kv => (keyD kv.1).shown ++ ": " ++ (valD kv.2).shown
  | [] => rfl
  | (k, v) :: r => by
    rw [List.map_cons, PyData.shownKv, shownKv_eq2 r]
    rfl
/-- at most a thousand entries, each key's and each value's text of at most five hundred signs -/
theorem dict_short {kvs : List (Key × V)} (hl : kvs.length ≤ 1000) (h : ∀ kv ∈ kvs, (keyD kv.1).shown.length ≤ 500 ∧ (valD kv.2).shown.length ≤ 500) : (dictD kvs).shown.length ≤ sizeLine := by
  unfold dictD
  rw [PyData.shown, shownKv_eq2]
  refine Nat.le_trans (dictText_le (B := 1002) fun t ht => ?_) ?_
  · obtain ⟨kv, hkv, rfl⟩ := List.mem_map.mp ht
    obtain ⟨h1, h2⟩ := h kv hkv
    rw [strLen_append, strLen_append]
    have : (": " : Str).length = 2 := rfl
    omega
  · rw [List.length_map]
    have h1 : sizeLine = 16777216 := rfl
    rw [h1]
    omega
theorem show_kv : ∀ {kvs : List (Key × V)}, (∀ kv ∈ kvs, (keyD kv.1).showable = true ∧ (valD kv.2).showable = true) → PyData.showableKv (kvs.map fun kv => (keyD kv.1, valD kv.2)) = true
  | [], _ => rfl
  | (k, v) :: r, h => by
    obtain ⟨h1, h2⟩ := h _ List.mem_cons_self
    rw [List.map_cons, PyData.showableKv, show_kv fun kv hkv => h kv (List.mem_cons_of_mem _ hkv)]
    rw [show (keyD k).showable = true from h1, show (valD v).showable = true from h2]
    rfl
theorem show_str {z : Str} : (PyData.str z).showable = true := by rw [PyData.showable]
theorem show_int {i : Int} (h : i.natAbs < 2 ^ 400) : (PyData.int i).showable = true := by
  rw [PyData.showable]
  refine decide_eq_true ?_
  by_cases h0 : i.natAbs = 0
  · rw [h0]; decide
  · exact Nat.lt_of_lt_of_le ((Nat.log2_lt h0).mpr h) (by decide)
theorem str_short {z : Str} (h : z.length ≤ 40) (hc : ∀ c ∈ z.cps.toList, c < 16 ^ 8) : (PyData.str z).shown.length ≤ 500 := by
  rw [PyData.shown]
  have := StrLaws.reprText_len z hc
  omega
theorem int_short {i : Int} (h : i.natAbs < 2 ^ 400) : (PyData.int i).shown.length ≤ 500 := by
  rw [PyData.shown]
  have hl : i.natAbs.log2 < 400 := by
    by_cases h0 : i.natAbs = 0
    · rw [h0]; decide
    · exact (Nat.log2_lt h0).mpr h
  have := int_text_length_le (by decide : 0 < 400) hl
  show (Str.ofString (toString i)).length ≤ 500
  rw [PySem.ofString_length]
  omega
end L2

namespace RK
open PySem L2
theorem nodup_sub {α : Type} [DecidableEq α] : ∀ {l m : List α}, l.Nodup → (∀ x ∈ l, x ∈ m) → l.length ≤ m.length
  | [], _, _, _ => Nat.zero_le _
  | x :: r, m, hn, h => by
    have hx := h x List.mem_cons_self
    obtain ⟨h1, h2⟩ := List.nodup_cons.mp hn
    have ih := nodup_sub (l := r) (m := m.erase x) h2 fun y hy => (List.mem_erase_of_ne (fun (z : y = x) => h1 (z ▸ hy))).mpr (h y (List.mem_cons_of_mem _ hy))
    rw [List.length_erase_of_mem hx] at ih
    have : 0 < m.length := List.length_pos_of_mem hx
    rw [List.length_cons]
    omega
theorem val_key {kvs : List (Key × V)} {k : Key} {v : V} (h : valV kvs k = some v) : k ∈ kvs.map (·.1) := by
  unfold valV at h
  cases e : kvs.find? fun kv => decide (kv.1 = k) with
  | none => rw [e] at h; cases h
  | some kv =>
    have h1 : kv.1 = k := of_decide_eq_true (List.find?_some (p := fun kv : Key × V => decide (kv.1 = k)) e)
    exact List.mem_map.mpr ⟨kv, List.mem_of_find?_eq_some e, h1⟩
/-- a dict with a key that is no walker's is no stand -/
theorem late_none {zs : List Str} {kvs : List (Key × V)} {k : Str} {v : V} (hnd : zs.Nodup) (hz : k ∉ zs) (hk : valV kvs (Sum.inr k : Key) = some v) : standB zs kvs = false := by
  cases h : standB zs kvs with
  | false => rfl
  | true =>
    have hd := (Bool.and_eq_true_iff.mp h).1
    unfold dictB at hd
    obtain ⟨h1, h2⟩ := Bool.and_eq_true_iff.mp hd
    have hl : kvs.length = zs.length := of_decide_eq_true h1
    have hall := List.all_eq_true.mp h2
    have q := nodup_sub (l := ((k :: zs).map fun z => (Sum.inr z : Key))) (m := kvs.map (·.1)) (nodup_keys (List.nodup_cons.mpr ⟨hz, hnd⟩)) fun x hx => by
      obtain ⟨z, hm, rfl⟩ := List.mem_map.mp hx
      rcases List.mem_cons.mp hm with e | e
      · rw [e]; exact val_key hk
      · have := hall z e
        cases e2 : valV kvs (Sum.inr z : Key) with
        | none => rw [e2] at this; cases this
        | some u => exact val_key e2
    simp only [List.length_map, List.length_cons] at q
    omega
theorem pool_len : ∀ z ∈ pool, z.length ≤ 1000 := by decide +kernel
theorem late_pool : ("late" : Str) ∉ pool := by decide +kernel
theorem find_congr {α : Type} {p q : α → Bool} : ∀ {l : List α}, (∀ x ∈ l, p x = q x) → l.find? p = l.find? q
  | [], _ => rfl
  | x :: r, h => by
    rw [List.find?_cons, List.find?_cons, h x List.mem_cons_self, find_congr fun y hy => h y (List.mem_cons_of_mem _ hy)]
theorem next_congr {zs : List Str} {kvs kvs' : List (Key × V)} (h : ∀ z ∈ zs, placeOf kvs' z = placeOf kvs z) {z : Str} (hz : z ∈ zs) : nextOf zs kvs' z = nextOf zs kvs z := by
  unfold nextOf
  exact find_congr fun y hy => by rw [h y hy, h z hz]
theorem same_strs {G : Hp} {a b : Addr} {l : List Str} {n : Nat} (ha : G a = some (.lst (l.map V.str))) (hb : G b = some (.lst (l.map V.str))) (hl : l.length ≤ 1000) (hz : ∀ z ∈ l, z.length ≤ 1000) : SameD G (n + 1) (.ref a) (.ref b) :=
  .lst ha hb rfl (by rw [List.length_map]; exact hl) fun i x y e1 e2 => by
    rw [e1] at e2; cases e2
    obtain ⟨z, hz1, rfl⟩ := get_map e1
    exact .str (hz z (List.mem_of_getElem? hz1))
theorem st_nil {σ : St} {H : Hp} {k : List V → Hp → Prop} (h : k [] H) : tNil σ H k := h
theorem text_ok {zs ks : List Str} {kvs : List (Key × V)} (hst : Sta zs ks kvs) (hz : ∀ z ∈ zs, z ∈ pool) (hl : zs.length ≤ 1000) (hb : ∀ z ∈ zs, (placeOf kvs z).natAbs < 2 ^ 100) :
    (∀ kv ∈ kvs, ∃ i : Int, kv.2 = .int i) ∧ (dictD kvs).showable = true ∧ (dictD kvs).shown.length ≤ sizeLine := by
  have hk : ∀ kv ∈ kvs, ∃ z, z ∈ zs ∧ kv = ((Sum.inr z : Key), V.int (placeOf kvs z)) := fun kv hm => by
    rw [hst.eq] at hm
    obtain ⟨y, hy, e⟩ := List.mem_map.mp hm
    exact ⟨y, hst.pm.mem_iff.mp hy, e.symm⟩
  have hint : ∀ z ∈ zs, (placeOf kvs z).natAbs < 2 ^ 400 := fun z h => Nat.lt_of_lt_of_le (hb z h) (Nat.pow_le_pow_right (by decide) (by decide))
  have hp : ∀ z ∈ pool, z.length ≤ 40 ∧ ∀ c ∈ z.cps.toList, c < 16 ^ 8 := by decide +kernel
  refine ⟨fun kv hm => ?_, ?_, ?_⟩
  · obtain ⟨z, _, rfl⟩ := hk kv hm
    exact ⟨_, rfl⟩
  · unfold dictD
    rw [PyData.showable]
    refine show_kv fun kv hm => ?_
    obtain ⟨z, h, rfl⟩ := hk kv hm
    exact ⟨show_str, show_int (hint z h)⟩
  · refine dict_short (by rw [hst.len]; exact hl) fun kv hm => ?_
    obtain ⟨z, h, rfl⟩ := hk kv hm
    obtain ⟨h1, h2⟩ := hp z (hz z h)
    exact ⟨str_short h1 h2, int_short (hint z h)⟩
theorem scan_none : ∀ {r seen : List Str}, (seen ++ r).Nodup → Nm r → 2 ≤ (seen ++ r).length → scan (seen.map V.str) (r.map V.str) = none
  | [], seen, _, _, h2 => by
    rw [List.append_nil] at h2
    show (if _ then _ else _) = _
    rw [if_neg (by rw [List.length_map]; omega)]
  | z :: r, seen, hnd, hnm, h2 => by
    have e : seen ++ z :: r = (seen ++ [z]) ++ r := by simp
    have hz : z ∉ seen := fun hm => by
      have := (List.nodup_append.mp hnd).2.2 z hm z List.mem_cons_self
      exact this rfl
    have hn : nameV (.str z) = true := hnm z List.mem_cons_self
    rw [List.map_cons]
    show (if _ then _ else _) = _
    have hd : decide (V.str z ∈ seen.map V.str) = false := decide_eq_false fun q => by
      obtain ⟨u, hu, e⟩ := List.mem_map.mp q
      cases e
      exact hz hu
    rw [if_pos (by rw [hn, hd]; rfl)]
    have := scan_none (r := r) (seen := seen ++ [z]) (by rw [← e]; exact hnd) (fun y hy => hnm y (List.mem_cons_of_mem _ hy)) (by rw [← e]; exact h2)
    rw [List.map_append] at this
    exact this
theorem str_inj : ∀ {l m : List Str}, l.map V.str = m.map V.str → l = m
  | [], [], _ => rfl
  | [], _ :: _, h => by cases h
  | _ :: _, [], h => by cases h
  | x :: l, y :: m, h => by
    rw [List.map_cons, List.map_cons] at h
    obtain ⟨h1, h2⟩ := List.cons.inj h
    cases h1
    rw [str_inj h2]
theorem same_first {G : Hp} {a b : Addr} {zs : List Str} (ha : G a = some (.dK (firstKv zs))) (hb : G b = some (.dK (firstKv zs))) (hl : zs.length ≤ 1000) (hz : ∀ z ∈ zs, z.length ≤ 1000) : SameD G 3 (.ref a) (.ref b) := by
  refine .dict (n := 0) ha hb rfl (by unfold firstKv; rw [List.length_map, List.length_zipIdx]; exact hl) (fun i p q e1 e2 => ?_) fun i p q e1 e2 => ?_
  · rw [e1] at e2; cases e2
    refine ⟨rfl, ?_⟩
    unfold firstKv at e1
    obtain ⟨x, hx, rfl⟩ := List.mem_map.mp (List.mem_of_getElem? e1)
    exact hz _ (List.fst_mem_of_mem_zipIdx hx)
  · rw [e1] at e2; cases e2
    unfold firstKv at e1
    obtain ⟨x, hx, rfl⟩ := List.mem_map.mp (List.mem_of_getElem? e1)
    exact .int _
theorem But.fresh {H H' : Hp} {a : Addr} (b : But a H H') (h : H a = none) : Same H H' := fun c o e => b c o (ne_of_none e h) e
theorem st_cons {ta : TE} {t : TA} {σ : St} {H : Hp} {k : List V → Hp → Prop} (h : ta σ H fun x H1 => t σ H1 fun xs H2 => k (x :: xs) H2) : tCons ta t σ H k := h
theorem st_c {v : V} {σ : St} {H : Hp} {Q : VK} (h : Q v H) : L2.tC v σ H Q := h
theorem init_good {K : PySem.W.Frag} {C CB : Addr} {x dx av : Addr} {kd : Kd} {zs : List Str} {H : Hp} {Q : VK} {E : XK} (hx : H x = none) (hdx : H dx = none) (hseq : SeqAt2 H av (zs.map V.str) kd) (hnd : zs.Nodup) (hnm : Nm zs) (hz : ∀ z ∈ zs, z.length ≤ 1000) (h2 : 2 ≤ zs.length) (hl : zs.length ≤ 1000)
    (h : ∀ t H', PathAt C H' x t zs → Same H H' → Q .non H') : spInit K C CB [.ref x, .ref av] (upd (upd H dx (.own x)) x (.ins C dx [])) Q E := by
  have hwn : wrongIx (zs.map V.str) = none := scan_none (seen := []) hnd hnm h2
  have s5 : Same H (upd (upd H dx (.own x)) x (.ins C dx [])) := fun b u e => by
    rw [upd_ne (ne_of_none e hx), upd_ne (ne_of_none e hdx)]
    exact e
  refine ⟨x, dx, .ref av, kd, rfl, upd_same, (hseq.same s5).th.1, fun hk => absurd (hseq.th (K := K)).2 (by rw [hk]; exact Bool.false_ne_true), fun _ => ?_⟩
  refine ⟨av, zs.map V.str, rfl, hseq.same s5, by rw [List.length_map]; exact hl, fun y hy => ?_, fun i hi => absurd (hwn.symm.trans hi) (fun q => nomatch q), fun _ zs' t H5 hxs hpa hbut => ?_⟩
  · obtain ⟨z, hm, rfl⟩ := List.mem_map.mp hy
    exact ⟨_, .str (hz z hm)⟩
  · cases str_inj hxs
    exact h t H5 hpa fun b u e => hbut b u (s5 b u e) (ne_of_none e hx)
end RK

/-! l.count(x), items data of any depth -/
namespace L2
open PySem PySem.Spec PyProof.Rows
section
variable {X : Cx}
def rCountD (K : PySem.W.Frag) : V → List V → Hp → VK → Prop := fun x xs H Q => ∃ (a : Addr) (y : V) (d : PyData) (ds : List PyData), x = V.ref a ∧ xs = [y] ∧ Dp K H (V.ref a) (.list ds) ∧ Dp K H y d ∧ SeqAt.shaped (.list ds) = true ∧ SeqAt.shaped d = true ∧ Q (.int ((ds.countP fun z => PyData.eqv z d) : Nat)) H
theorem mt_countD (hu : X.A.units + 65 < cLine) : MtR X "list.count" (rCountD X.K) := by
  intro pins s σ H x xs v us Q I rx rxs h
  obtain ⟨a, y, d, ds, rfl, rfl, hl, hy, sl, sd, q⟩ := h
  cases rx
  obtain ⟨uy, rfl, ry⟩ := rxs.one
  obtain ⟨bs, r1⟩ := Dp.reads I d y uy hy ry
  have lay : PyData.canLayAll0 ds = true := SeqAt.canLay_of_shaped sl
  have deep : X.A.units + 1 + min (PyData.depthAll ds) d.depth < cLine := room_in_shaped sd hu
  cases hl with
  | lst hs ha =>
    obtain ⟨its, rv, ⟨⟨cls, dd, data, sls⟩, n, ho, hc, hdn, hdt⟩, hlen⟩ := I.list hs
    simp only at hc hdt
    subst hc hdt
    obtain ⟨as, h4⟩ := Dp.readsAll I ds _ its ha rv
    have same : its.map (SeqAt.readOf s.heap) = ds := SeqAt.readsAll_map ds its as lay h4
    refine call_meets PySem.F.slot_list_count ⟨_, ho, rfl⟩ PySem.F.entry_list_count (PySem.F.args_list_count_2 _ _)
      (SeqAt.list_countAt a its.toArray n dd sls uy (fun u => PyData.eqv (SeqAt.readOf s.heap u) d)) ⟨ho, SeqAt.items_eqAt (vs := its.toArray) (show ReadsAll s.heap its.toArray.toList ds as from h4) r1 lay (SeqAt.canLay_of_shaped sd) deep, ?_⟩
    have e : its.toArray.toList.countP (fun u => PyData.eqv (SeqAt.readOf s.heap u) d) = ds.countP fun z => PyData.eqv z d := by
      rw [← same, List.countP_map]
      rfl
    exact ⟨.int ((ds.countP fun z => PyData.eqv z d) : Nat), H, I.tok _, ⟨s.toks, by rw [e]⟩, q⟩
end
/-! pairs of texts -/
def prS (p : Str × Str) : PyData := .tuple [.str p.1, .str p.2]
def okS (p : Str × Str) : Prop := PyData.strOk p.1 = true ∧ PyData.strOk p.2 = true
theorem prS_lay {p : Str × Str} (h : okS p) : (prS p).canLay0 = true := by simp [prS, PyData.canLay0, PyData.canLayAll0, h.1, h.2]
theorem prS_depth (p : Str × Str) : (prS p).depth = 1 := by simp [prS, PyData.depth, PyData.depthAll]
theorem prS_lays : ∀ {l : List (Str × Str)}, (∀ p ∈ l, okS p) → PyData.canLayAll0 (l.map prS) = true
  | [], _ => by simp [PyData.canLayAll0]
  | p :: l, h => by
    have h1 := prS_lay (h p List.mem_cons_self)
    have h2 := prS_lays (l := l) fun q hq => h q (List.mem_cons_of_mem _ hq)
    simp [PyData.canLayAll0, h1, h2]
theorem prS_depths : ∀ l : List (Str × Str), PyData.depthAll (l.map prS) ≤ 1
  | [] => by simp [PyData.depthAll]
  | p :: l => by
    have h1 := prS_depths l
    have h2 := prS_depth p
    simp only [List.map_cons, PyData.depthAll]
    omega
theorem prS_shaped {p : Str × Str} (h : okS p) : SeqAt.shaped (prS p) = true := by
  show ((prS p).canLay0 && decide ((prS p).depth ≤ 64)) = true
  rw [prS_lay h, prS_depth p]
  rfl
theorem prS_shapeds {l : List (Str × Str)} (h : ∀ p ∈ l, okS p) : SeqAt.shaped (.list (l.map prS)) = true := by
  have h1 := prS_depths l
  have h2 : PyData.depth (.list (l.map prS)) ≤ 64 := by
    simp only [PyData.depth]
    omega
  show (PyData.canLay0 (.list (l.map prS)) && decide (PyData.depth (.list (l.map prS)) ≤ 64)) = true
  rw [Bool.and_eq_true]
  exact ⟨by simp only [PyData.canLay0]; exact prS_lays h, decide_eq_true h2⟩
theorem prS_eqv (p q : Str × Str) : PyData.eqv (prS p) (prS q) = decide (p = q) := by
  obtain ⟨a, b⟩ := p
  obtain ⟨c, d⟩ := q
  have e : PyData.eqv (prS (a, b)) (prS (c, d)) = ((a == c) && ((b == d) && true)) := by simp only [prS, PyData.eqv, PyData.eqvAll]
  rw [e]
  by_cases h1 : a = c
  · by_cases h2 : b = d
    · subst h1; subst h2
      simp
    · rw [beq_eq_false_iff_ne.mpr h2, Bool.false_and, Bool.and_false, decide_eq_false (fun q => h2 (Prod.mk.inj q).2)]
  · rw [beq_eq_false_iff_ne.mpr h1, Bool.false_and, decide_eq_false (fun q => h1 (Prod.mk.inj q).1)]
theorem prS_dp {K : PySem.W.Frag} {H : Hp} {t : Addr} {a b : Str} (h : H t = some (.tup [.str a, .str b])) : Dp K H (.ref t) (prS (a, b)) := .tup (SqT.of h) (.cons (.str a) (.cons (.str b) .nil))
end L2

namespace RK
open PySem L2
/-! ### the law's own net -/
def qN (zs : List Str) (kvs : List (Key × V)) (a b : Str) : Int := (placeOf kvs a - placeOf kvs b) / (zs.length : Int)
/-- the net by places -/
def netP (zs : List Str) (kvs : List (Key × V)) (a b : Str) : Int := qN zs kvs a b - (((zs.idxOf a : Nat) : Int) - ((zs.idxOf b : Nat) : Int)) / (zs.length : Int)
theorem idx_str {zs : List Str} {a : Str} (h : a ∈ zs) : (zs.map V.str)[zs.idxOf a]? = some (.str a) ∧ ∀ (m : Nat) (z' : V), m < zs.idxOf a → (zs.map V.str)[m]? = some z' → eqV z' (.str a) = false := by
  have hl := List.idxOf_lt_length_of_mem h
  refine ⟨?_, fun m z' hm hz => ?_⟩
  · rw [List.getElem?_map, List.getElem?_eq_getElem hl, List.getElem_idxOf hl]
    rfl
  · obtain ⟨z, e, rfl⟩ := get_map hz
    obtain ⟨h1, h2⟩ := List.getElem?_eq_some_iff.mp e
    show decide (z = a) = false
    refine decide_eq_false fun q => ?_
    have := List.not_of_lt_findIdx (p := (· == a)) (xs := zs) hm
    subst q
    rw [h2] at this
    simp at this

def spWNet : Sp := fun vs H Q _ => ∃ (d : Addr) (zs : List Str) (kvs : List (Key × V)) (a b : Str), vs = [.ref d, .str a, .str b] ∧ H d = some (.dK kvs) ∧ Sta zs zs kvs ∧ a ∈ zs ∧ b ∈ zs ∧ zs.length ≤ 1000 ∧ ∀ H', Same H H' → Q (.int (netP zs kvs a b)) H'
section
variable {P : Program} {w : World} {K : PySem.W.Frag} {mg : Str → Option Value} {base : Heap}
end
end RK

/-! a walk with any body: for comprehensions of two clauses -/
namespace L2
open PySem PySem.Spec PyProof.Rows
theorem lcg_it {J : It} {n : Nat} {G : Hp → Prop} {Y : Nat → Hp → V → Hp → Prop} (w : Walk J n G Y) {Bd : (Hp → Prop) → V → Hp → Prop} {H0 : Hp} {Qd : Hp → Prop} (Pv : Nat → Hp → Prop) (h0 : Pv 0 H0) (hG : ∀ i H, i ≤ n → Pv i H → G H)
    (hs : ∀ i x H H', i < n → Pv i H → Y i H x H' → Bd (Pv (i + 1)) x H') (hd : ∀ H, Pv n H → Qd H) :
    ∃ W : Nat → Nat → Hp → Prop, (∃ m, W 0 m H0) ∧ ∀ i m H, W i m H →
      (J.stop i H ∧ Qd H) ∨ (J.go i H ∧ ∃ Nx : Hp → Prop, (∀ H', Nx H' → ∃ m', m' < m ∧ W (i + 1) m' H') ∧ ∀ x H', J.yld i H x H' → Bd Nx x H') := by
  refine ⟨fun i m H => m = n - i ∧ i ≤ n ∧ Pv i H, ⟨n, by simp, Nat.zero_le _, h0⟩, ?_⟩
  rintro i m H ⟨rfl, hi, p⟩
  have q := hG i H hi p
  by_cases hlt : i < n
  · exact .inr ⟨w.goes i H hlt q, Pv (i + 1), fun H' p' => ⟨n - (i + 1), by omega, rfl, hlt, p'⟩, fun x H' y => hs i x H H' hlt p (w.yields i H x H' hlt q y)⟩
  · have e : i = n := by omega
    subst e
    exact .inl ⟨w.stops H q, hd H p⟩
end L2

namespace RK
open PySem L2
/-! ### pairs of names -/
def pairsFrom (zs : List Str) : List Str → List (Str × Str)
  | [] => []
  | a :: r => (zs.filter fun b => decide (a ≠ b)).map (fun b => (a, b)) ++ pairsFrom zs r
def pairsOf (zs : List Str) : List (Str × Str) := pairsFrom zs zs
def pairsAhead : List Str → List (Str × Str)
  | [] => []
  | a :: r => r.map (fun b => (a, b)) ++ pairsAhead r
theorem paired_cat {α β : Type} {F : α → β → Prop} : ∀ {a : List α} {b : List β} {c : List α} {d : List β}, Paired F a b → Paired F c d → Paired F (a ++ c) (b ++ d)
  | [], [], _, _, .nil, h => h
  | _ :: _, _ :: _, _, _, .cons h r, q => .cons h (paired_cat r q)
/-- what is laid at the list D so far, with what is still to come, is all -/
def LaidP (D : Addr) (all rem : List (Str × Str)) (G : Hp) : Prop := ∃ (ts : List Addr) (rn : List (Str × Str)), G D = some (.lst (ts.map V.ref)) ∧ Paired (fun (t : Addr) (pr : Str × Str) => t ≠ D ∧ G t = some (.tup [.str pr.1, .str pr.2])) ts rn ∧ rn ++ rem = all
theorem LaidP.len {D : Addr} {all rem : List (Str × Str)} {G : Hp} (h : LaidP D all rem G) : ∃ acc, G D = some (.lst acc) ∧ acc.length ≤ all.length := by
  obtain ⟨ts, rn, h1, h2, h3⟩ := h
  refine ⟨_, h1, ?_⟩
  rw [List.length_map, Paired.length h2, ← h3, List.length_append]
  omega
theorem LaidP.step {D T : Addr} {all rem : List (Str × Str)} {G G1 : Hp} {p : Str × Str} (h : LaidP D all (p :: rem) G) (hT : G T = none) (e : upd G T (.tup [.str p.1, .str p.2]) = G1) : ∃ acc, G1 D = some (.lst acc) ∧ acc.length < all.length ∧ LaidP D all rem (upd G1 D (.lst (acc ++ [.ref T]))) := by
  obtain ⟨ts, rn, h1, h2, h3⟩ := h
  have s : Same G G1 := e ▸ same_upd hT
  have hTD : T ≠ D := Ne.symm (ne_of_none h1 hT)
  refine ⟨_, s _ _ h1, ?_, ts ++ [T], rn ++ [p], by rw [upd_same, List.map_append]; rfl, ?_, by rw [List.append_assoc]; exact h3⟩
  · rw [List.length_map, Paired.length h2, ← h3, List.length_append, List.length_cons]
    omega
  · exact paired_cat (Paired.mono (fun u q z => ⟨z.1, by rw [upd_ne z.1]; exact s _ _ z.2⟩) h2) (.cons ⟨hTD, by rw [upd_ne hTD, ← e, upd_same]⟩ .nil)
theorem LaidP.pairs {D : Addr} {all : List (Str × Str)} {G : Hp} (h : LaidP D all [] G) : PairsAt G D all := by
  obtain ⟨ts, rn, h1, h2, h3⟩ := h
  rw [List.append_nil] at h3
  exact ⟨ts, h1, h3 ▸ h2⟩
theorem cut_take {xs : List V} {k : Nat} (h : k ≤ xs.length) : cutV xs none (some (k : Int)) = xs.take k := by
  unfold cutV
  rw [HT.sIx_nat, HT.sIx_none, Nat.min_eq_left h]
  rfl
theorem cut_drop {xs : List V} {k : Nat} (h : k ≤ xs.length) : cutV xs (some (k : Int)) none = xs.drop k := by
  unfold cutV
  rw [HT.sIx_nat, HT.sIx_none, Nat.min_eq_left h]
  exact List.take_of_length_le (by rw [List.length_drop]; exact Nat.le_refl _)
theorem from_len {zs : List Str} : ∀ {r : List Str}, (pairsFrom zs r).length ≤ zs.length * r.length
  | [] => Nat.zero_le _
  | a :: r => by
    have h := from_len (zs := zs) (r := r)
    have h1 := List.length_filter_le (fun b => decide (a ≠ b)) zs
    show ((zs.filter fun b => decide (a ≠ b)).map (fun b => (a, b)) ++ pairsFrom zs r).length ≤ _
    rw [List.length_append, List.length_map, List.length_cons, Nat.mul_succ]
    omega
theorem ahead_len : ∀ {r : List Str}, (pairsAhead r).length ≤ r.length * r.length
  | [] => Nat.zero_le _
  | a :: r => by
    have h := ahead_len (r := r)
    show (r.map (fun b => (a, b)) ++ pairsAhead r).length ≤ _
    rw [List.length_append, List.length_map, List.length_cons, Nat.succ_mul, Nat.mul_succ]
    omega
theorem sq_room {n : Nat} (h : n ≤ 1000) : n * n < sizeLine := Nat.lt_of_le_of_lt (Nat.mul_le_mul h h) (by decide)
def spPairsOf : Sp := fun vs H Q _ => ∃ (n : Addr) (zs : List Str), vs = [.ref n] ∧ H n = some (.lst (zs.map V.str)) ∧ zs.length ≤ 1000 ∧ ∀ p H', H p = none → PairsAt H' p (pairsOf zs) → Same H H' → Q (.ref p) H'
def spPairsAh : Sp := fun vs H Q _ => ∃ (n : Addr) (zs : List Str), vs = [.ref n] ∧ H n = some (.lst (zs.map V.str)) ∧ zs.length ≤ 1000 ∧ ∀ p H', H p = none → PairsAt H' p (pairsAhead zs) → Same H H' → Q (.ref p) H'
section
variable {P : Program} {w : World} {K : PySem.W.Frag} {mg : Str → Option Value} {base : Heap}
end
end RK

namespace RK
open PySem L2
/-! ### dicts keyed by pairs of names -/
def kP (p : Str × Str) : List Key := [Sum.inr p.1, Sum.inr p.2]
def kvP (l : List (Str × Str)) (g : Str × Str → Int) : List (List Key × V) := l.map fun p => (kP p, V.int (g p))
theorem kP_inj {p q : Str × Str} (h : kP p = kP q) : p = q := by
  unfold kP at h
  obtain ⟨h1, h2⟩ := List.cons.inj h
  obtain ⟨h3, _⟩ := List.cons.inj h2
  exact Prod.ext (Sum.inr.inj h1) (Sum.inr.inj h3)
theorem kP_kV {p : Str × Str} : (kP p).map kV = [.str p.1, .str p.2] := rfl
theorem val_new {l : List (Str × Str)} {g : Str × Str → Int} {p : Str × Str} (h : p ∉ l) : valV (kvP l g) (kP p) = none := by
  unfold valV kvP
  rw [List.find?_eq_none.mpr]
  · rfl
  · intro x hx q
    obtain ⟨y, hy, rfl⟩ := List.mem_map.mp hx
    exact h (kP_inj (of_decide_eq_true q) ▸ hy)
theorem val_P {g : Str × Str → Int} {p : Str × Str} : ∀ {l : List (Str × Str)}, p ∈ l → valV (kvP l g) (kP p) = some (.int (g p))
  | [], h => nomatch h
  | y :: r, h => by
    unfold kvP valV
    rw [List.map_cons, List.find?_cons]
    by_cases e : y = p
    · subst e
      rw [decide_eq_true rfl]
      rfl
    · rw [decide_eq_false (fun q => e (kP_inj q))]
      rcases List.mem_cons.mp h with q | q
      · exact absurd q.symm e
      · exact val_P q
theorem put_P_new {l : List (Str × Str)} {g : Str × Str → Int} {p : Str × Str} (h : p ∉ l) : putK (kvP l g) (kP p) (.int (g p)) = kvP (l ++ [p]) g := by
  rw [putK_new _ (val_new h)]
  unfold kvP
  rw [List.map_append]
  rfl
theorem put_P {l : List (Str × Str)} {g : Str × Str → Int} {p : Str × Str} {v : Int} (h : p ∈ l) : putK (kvP l g) (kP p) (.int v) = kvP l fun q => if q = p then v else g q := by
  unfold putK
  rw [if_pos]
  · unfold kvP
    rw [List.map_map]
    refine List.map_congr_left fun u hu => ?_
    show (if kP u = kP p then (kP u, V.int v) else (kP u, V.int (g u))) = (kP u, V.int (if u = p then v else g u))
    by_cases e : u = p
    · subst e; rw [if_pos rfl, if_pos rfl]
    · rw [if_neg (fun q => e (kP_inj q)), if_neg e]
  · unfold kvP
    exact List.any_eq_true.mpr ⟨_, List.mem_map.mpr ⟨p, h, rfl⟩, decide_eq_true rfl⟩
theorem kvP_congr {l : List (Str × Str)} {g g' : Str × Str → Int} (h : ∀ p ∈ l, g p = g' p) : kvP l g = kvP l g' := List.map_congr_left fun p hp => by rw [h p hp]
theorem kvP_len {l : List (Str × Str)} {g : Str × Str → Int} : (kvP l g).length = l.length := List.length_map _
/-! ### which pairs -/
theorem mem_from {zs : List Str} {a b : Str} : ∀ {r : List Str}, (a, b) ∈ pairsFrom zs r ↔ a ∈ r ∧ b ∈ zs ∧ a ≠ b
  | [] => by
    constructor
    · intro h; exact nomatch h
    · intro h; exact nomatch h.1
  | x :: r => by
    show (a, b) ∈ (zs.filter fun b => decide (x ≠ b)).map (fun b => (x, b)) ++ pairsFrom zs r ↔ _
    rw [List.mem_append, mem_from (r := r), List.mem_map]
    constructor
    · rintro (⟨y, hy, e⟩ | ⟨h1, h2⟩)
      · cases e
        obtain ⟨h1, h2⟩ := List.mem_filter.mp hy
        exact ⟨List.mem_cons_self, h1, of_decide_eq_true h2⟩
      · exact ⟨List.mem_cons_of_mem _ h1, h2⟩
    · rintro ⟨h1, h2, h3⟩
      rcases List.mem_cons.mp h1 with e | e
      · subst e
        exact .inl ⟨b, List.mem_filter.mpr ⟨h2, decide_eq_true h3⟩, rfl⟩
      · exact .inr ⟨e, h2, h3⟩
theorem mem_pairs {zs : List Str} {a b : Str} : (a, b) ∈ pairsOf zs ↔ a ∈ zs ∧ b ∈ zs ∧ a ≠ b := mem_from
theorem nodup_pair {a : Str} {l : List Str} (h : l.Nodup) : (l.map fun b => (a, b)).Nodup := nodup_inj h fun x _ y _ e => (Prod.mk.inj e).2
theorem nodup_from {zs : List Str} (hz : zs.Nodup) : ∀ {r : List Str}, r.Nodup → (pairsFrom zs r).Nodup
  | [], _ => List.nodup_nil
  | x :: r, h => by
    obtain ⟨h1, h2⟩ := List.nodup_cons.mp h
    refine List.nodup_append.mpr ⟨nodup_pair (hz.filter _), nodup_from hz h2, ?_⟩
    rintro p hp q hq rfl
    obtain ⟨y, _, rfl⟩ := List.mem_map.mp hp
    exact h1 (mem_from.mp hq).1
theorem nodup_pairs {zs : List Str} (hz : zs.Nodup) : (pairsOf zs).Nodup := nodup_from hz hz
theorem mem_ahead {a b : Str} : ∀ {zs : List Str}, zs.Nodup → ((a, b) ∈ pairsAhead zs ↔ a ∈ zs ∧ b ∈ zs ∧ zs.idxOf a < zs.idxOf b)
  | [], _ => by
    constructor
    · intro h; exact nomatch h
    · intro h; exact nomatch h.1
  | x :: r, h => by
    obtain ⟨h1, h2⟩ := List.nodup_cons.mp h
    show (a, b) ∈ r.map (fun b => (x, b)) ++ pairsAhead r ↔ _
    rw [List.mem_append, mem_ahead h2, List.mem_map, List.idxOf_cons, List.idxOf_cons]
    constructor
    · rintro (⟨y, hy, e⟩ | ⟨h3, h4, h5⟩)
      · obtain ⟨rfl, rfl⟩ := Prod.mk.inj e
        refine ⟨List.mem_cons_self, List.mem_cons_of_mem _ hy, ?_⟩
        have e3 : (x == y) = false := beq_eq_false_iff_ne.mpr fun e => h1 (e ▸ hy)
        rw [e3, beq_self_eq_true]
        show 0 < _ + 1
        omega
      · refine ⟨List.mem_cons_of_mem _ h3, List.mem_cons_of_mem _ h4, ?_⟩
        have e1 : (x == a) = false := beq_eq_false_iff_ne.mpr fun e => h1 (e ▸ h3)
        have e2 : (x == b) = false := beq_eq_false_iff_ne.mpr fun e => h1 (e ▸ h4)
        rw [e1, e2]
        show _ + 1 < _ + 1
        omega
    · rintro ⟨h3, h4, h5⟩
      by_cases e1 : x = a
      · subst e1
        by_cases e2 : x = b
        · subst e2
          simp at h5
        · rcases List.mem_cons.mp h4 with e | e
          · exact absurd e.symm e2
          · exact .inl ⟨b, e, rfl⟩
      · by_cases e2 : x = b
        · subst e2
          rw [beq_self_eq_true] at h5
          exact absurd h5 (Nat.not_lt_zero _)
        · rcases List.mem_cons.mp h3 with e | e
          · exact absurd e.symm e1
          rcases List.mem_cons.mp h4 with e3 | e3
          · exact absurd e3.symm e2
          have q1 : (x == a) = false := beq_eq_false_iff_ne.mpr e1
          have q2 : (x == b) = false := beq_eq_false_iff_ne.mpr e2
          rw [q1, q2] at h5
          exact .inr ⟨e, e3, Nat.lt_of_succ_lt_succ h5⟩
theorem nodup_ahead : ∀ {zs : List Str}, zs.Nodup → (pairsAhead zs).Nodup
  | [], _ => List.nodup_nil
  | x :: r, h => by
    obtain ⟨h1, h2⟩ := List.nodup_cons.mp h
    refine List.nodup_append.mpr ⟨nodup_pair h2, nodup_ahead h2, ?_⟩
    rintro p hp q hq rfl
    obtain ⟨y, _, rfl⟩ := List.mem_map.mp hp
    exact h1 ((mem_ahead h2).mp hq).1
theorem ahead_pairs {zs : List Str} (h : zs.Nodup) {p : Str × Str} (hp : p ∈ pairsAhead zs) : p ∈ pairsOf zs := by
  obtain ⟨a, b⟩ := p
  obtain ⟨h1, h2, h3⟩ := (mem_ahead h).mp hp
  exact mem_pairs.mpr ⟨h1, h2, fun e => by rw [e] at h3; omega⟩
/-- the nets by distances and a lap -/
def netB (zs : List Str) (kvs : List (Key × V)) (lap : Int) (p : Str × Str) : Int := (placeOf kvs p.1 - placeOf kvs p.2) / lap + if p ∈ pairsAhead zs then 1 else 0
theorem netB_netP {zs : List Str} {kvs : List (Key × V)} (hn : zs.Nodup) {p : Str × Str} (hp : p ∈ pairsOf zs) : netB zs kvs zs.length p = netP zs kvs p.1 p.2 := by
  obtain ⟨a, b⟩ := p
  obtain ⟨ha, hb, hab⟩ := mem_pairs.mp hp
  have l1 := List.idxOf_lt_length_of_mem ha
  have l2 := List.idxOf_lt_length_of_mem hb
  unfold netB netP qN
  show _ + (if (a, b) ∈ pairsAhead zs then (1 : Int) else 0) = _ - (((zs.idxOf a : Nat) : Int) - ((zs.idxOf b : Nat) : Int)) / (zs.length : Int)
  by_cases h : (a, b) ∈ pairsAhead zs
  · obtain ⟨_, _, h3⟩ := (mem_ahead hn).mp h
    have hn0 : (0 : Int) < (zs.length : Int) := by omega
    have e : (((zs.idxOf a : Nat) : Int) - ((zs.idxOf b : Nat) : Int)) / (zs.length : Int) = -1 :=
      ((Int.ediv_emod_unique hn0).mpr ⟨by omega, by omega, by omega⟩ : (((zs.idxOf a : Nat) : Int) - ((zs.idxOf b : Nat) : Int)) / (zs.length : Int) = -1 ∧ (((zs.idxOf a : Nat) : Int) - ((zs.idxOf b : Nat) : Int)) % (zs.length : Int) = (zs.length : Int) + (((zs.idxOf a : Nat) : Int) - ((zs.idxOf b : Nat) : Int))).1
    rw [if_pos h, e]
    omega
  · have h3 : ¬ zs.idxOf a < zs.idxOf b := fun q => h ((mem_ahead hn).mpr ⟨ha, hb, q⟩)
    have e : (((zs.idxOf a : Nat) : Int) - ((zs.idxOf b : Nat) : Int)) / (zs.length : Int) = 0 := Int.ediv_eq_zero_of_lt (by omega) (by omega)
    rw [if_neg h, e]
    omega
end RK

namespace RK
open PySem L2
/-- the dict at e is of these nets -/
def spNetsBy : Sp := fun vs H Q _ => ∃ (n d : Addr) (zs : List Str) (kvs : List (Key × V)) (lap : Int), vs = [.ref n, .ref d, .int lap] ∧ H n = some (.lst (zs.map V.str)) ∧ H d = some (.dK kvs) ∧ (∀ z ∈ zs, valV kvs (Sum.inr z : Key) = some (.int (placeOf kvs z))) ∧ zs.Nodup ∧ zs.length ≤ 1000 ∧ 0 < lap ∧ lap.natAbs < 2 ^ 60 ∧
  ∀ e H', H e = none → H' e = some (.dT (kvP (pairsOf zs) (netB zs kvs lap))) → Same H H' → Q (.ref e) H'
def spNetsAmong : Sp := fun vs H Q _ => ∃ (n d : Addr) (zs : List Str) (kvs : List (Key × V)), vs = [.ref n, .ref d] ∧ H n = some (.lst (zs.map V.str)) ∧ H d = some (.dK kvs) ∧ (∀ z ∈ zs, valV kvs (Sum.inr z : Key) = some (.int (placeOf kvs z))) ∧ zs.Nodup ∧ zs.length ≤ 1000 ∧ 0 < zs.length ∧
  ∀ e H', H e = none → H' e = some (.dT (kvP (pairsOf zs) fun p => netP zs kvs p.1 p.2)) → Same H H' → Q (.ref e) H'
section
variable {P : Program} {w : World} {K : PySem.W.Frag} {mg : Str → Option Value} {base : Heap}
end
end RK

namespace RK
open PySem L2
section
variable {P : Program} {w : World} {K : PySem.W.Frag} {mg : Str → Option Value} {base : Heap}
def scPl1 : Scope := { kind := .function, names := [(".0", .local), ("one", .cell), ("sum", .globalImplicit), ("first", .cell), ("names", .cell), ("nets", .cell)], isGenerator := false, isCoroutine := false }
def placedG (zs : List Str) (g : Str × Str → Int) (z : Str) : Int := ((zs.idxOf z : Nat) : Int) + ((zs.filter fun y => decide (y ≠ z)).map fun y => g (z, y)).sum
def spPlacedBy : Sp := fun vs H Q _ => ∃ (n e : Addr) (zs : List Str) (kvt : List (List Key × V)) (g : Str × Str → Int), vs = [.ref n, .ref e] ∧ H n = some (.lst (zs.map V.str)) ∧ H e = some (.dT kvt) ∧ (∀ p ∈ pairsOf zs, valV kvt (kP p) = some (.int (g p))) ∧ zs.Nodup ∧ zs.length ≤ 1000 ∧
  ∀ f H', H f = none → H' f = some (.dK (kvOf zs (placedG zs g))) → Same H H' → Q (.ref f) H'
end
end RK

namespace RK
open PySem L2
/-! ### the sum of all nets -/
theorem perm_of_sub {α : Type} [DecidableEq α] : ∀ {l m : List α}, l.Nodup → (∀ x ∈ l, x ∈ m) → m.length ≤ l.length → l.Perm m
  | [], m, _, _, h => by rw [List.length_eq_zero_iff.mp (Nat.le_zero.mp h)]
  | x :: r, m, hn, hs, h => by
    have hx := hs x List.mem_cons_self
    obtain ⟨h1, h2⟩ := List.nodup_cons.mp hn
    have hl : (m.erase x).length ≤ r.length := by
      rw [List.length_erase_of_mem hx]
      rw [List.length_cons] at h
      omega
    have ih := perm_of_sub (l := r) (m := m.erase x) h2 (fun y hy => (List.mem_erase_of_ne (fun (z : y = x) => h1 (z ▸ hy))).mpr (hs y (List.mem_cons_of_mem _ hy))) hl
    exact (ih.cons x).trans (List.perm_cons_erase hx).symm
theorem mod_zero {n d : Int} (h : d % n = 0) : ∃ k, d = n * k := ⟨d / n, by have := Int.emod_add_mul_ediv d n; omega⟩
theorem mod_eq {n a b : Int} (h : (a - b) % n = 0) : a % n = b % n := by
  obtain ⟨k, e⟩ := mod_zero h
  rw [show a = b + n * k by omega, Int.add_mul_emod_self_left]
theorem eq_mod {n a b : Int} (h : a % n = b % n) : (a - b) % n = 0 := by
  rw [Int.sub_emod, h, Int.sub_self]
  rfl
theorem sum_all {n : Nat} {l : List Int} (hn : l.Nodup) (hb : ∀ x ∈ l, 0 ≤ x ∧ x < (n : Int)) (hl : l.length = n) : l.sum = (n : Int) * ((n : Int) - 1) / 2 := by
  rw [← half_sum]
  refine perm_sum (perm_of_sub hn (fun x hx => ?_) (by rw [List.length_map, List.length_range, hl]; exact Nat.le_refl _))
  obtain ⟨h1, h2⟩ := hb x hx
  exact List.mem_map.mpr ⟨x.toNat, List.mem_range.mpr (by omega), by omega⟩
theorem sum_mulc {f : Str → Int} {c : Int} : ∀ {l : List Str}, (l.map fun z => c * f z).sum = c * (l.map f).sum
  | [] => by simp
  | z :: r => by rw [List.map_cons, List.map_cons, List.sum_cons, List.sum_cons, sum_mulc, Int.mul_add]
theorem sum_congr {f g : Str → Int} {l : List Str} (h : ∀ z ∈ l, f z = g z) : (l.map f).sum = (l.map g).sum := by rw [List.map_congr_left h]
theorem sum_const {c : Int} : ∀ {l : List Str}, (l.map fun _ => c).sum = (l.length : Int) * c
  | [] => by simp
  | z :: r => by
    rw [List.map_cons, List.sum_cons, sum_const, List.length_cons]
    have : ((r.length + 1 : Nat) : Int) * c = (r.length : Int) * c + c := by rw [Int.natCast_add, Int.add_mul]; simp
    rw [this]
    omega
theorem nat_of_list' {f : Str → Int} {c : Int} : ∀ {l : List Str}, (l.map fun z => c - f z).sum = (l.length : Int) * c - (l.map f).sum
  | [] => by simp
  | z :: r => by
    rw [List.map_cons, List.map_cons, List.sum_cons, List.sum_cons, nat_of_list', List.length_cons]
    have : ((r.length + 1 : Nat) : Int) * c = (r.length : Int) * c + c := by rw [Int.natCast_add, Int.add_mul]; simp
    rw [this]
    omega
theorem even_n (n : Int) : n * (n - 1) % 2 = 0 := by
  rcases Int.emod_two_eq n with q | q
  · rw [Int.mul_emod, q]; simp
  · rw [Int.mul_emod, show (n - 1) % 2 = 0 by omega]; simp
theorem sum_q {zs ks : List Str} {kvs : List (Key × V)} (h : Sta zs ks kvs) (nd : zs.Nodup) (h0 : 0 < zs.length) {x : Str} (hx : x ∈ zs) : (zs.map fun y => qN zs kvs x y).sum = placeOf kvs x - ((zs.length : Int) - 1) := by
  have hn : (0 : Int) < (zs.length : Int) := by omega
  have e1 : ∀ y ∈ zs, (zs.length : Int) * qN zs kvs x y + (placeOf kvs x - placeOf kvs y) % (zs.length : Int) = placeOf kvs x - placeOf kvs y := fun y _ => by
    unfold qN
    have := Int.emod_add_mul_ediv (placeOf kvs x - placeOf kvs y) (zs.length : Int)
    omega
  have e2 : (zs.map fun y => (placeOf kvs x - placeOf kvs y) % (zs.length : Int)).sum = (zs.length : Int) * ((zs.length : Int) - 1) / 2 := by
    refine sum_all ?_ (fun v hv => ?_) (List.length_map _)
    · refine nodup_inj nd fun a ha b hb e => ?_
      refine rest_inj h.ok ha hb ?_
      have q := eq_mod e
      exact (mod_eq (by rw [show placeOf kvs b - placeOf kvs a = placeOf kvs x - placeOf kvs a - (placeOf kvs x - placeOf kvs b) by omega]; exact q) : placeOf kvs b % (zs.length : Int) = placeOf kvs a % (zs.length : Int)).symm
    · obtain ⟨y, _, rfl⟩ := List.mem_map.mp hv
      exact ⟨Int.emod_nonneg _ (by omega), Int.emod_lt_of_pos _ hn⟩
  have e3 := sum_congr e1
  rw [sum_add (f := fun y => (zs.length : Int) * qN zs kvs x y) (g := fun y => (placeOf kvs x - placeOf kvs y) % (zs.length : Int)), e2, sum_mulc, nat_of_list', h.sum] at e3
  have e4 := even_n (zs.length : Int)
  have e5 : (zs.length : Int) * (zs.map fun y => qN zs kvs x y).sum = (zs.length : Int) * (placeOf kvs x - ((zs.length : Int) - 1)) := by
    rw [Int.mul_sub]
    have e6 : (zs.length : Int) * (zs.map fun y => qN zs kvs x y).sum + (zs.length : Int) * ((zs.length : Int) - 1) / 2 = (zs.length : Int) * placeOf kvs x - (zs.length : Int) * ((zs.length : Int) - 1) / 2 := e3
    omega
  exact Int.eq_of_mul_eq_mul_left (by omega) e5
end RK

namespace RK
open PySem L2
/-! ### the path begun with another one -/
theorem net_self {zs : List Str} {kvs : List (Key × V)} {x : Str} : netP zs kvs x x = 0 := by
  unfold netP qN
  rw [Int.sub_self, Int.sub_self, Int.zero_ediv]
  rfl
theorem sum_net {zs ks : List Str} {kvs : List (Key × V)} (h : Sta zs ks kvs) (nd : zs.Nodup) {x : Str} (hx : x ∈ zs) : (zs.map fun y => netP zs kvs x y).sum = placeOf kvs x - ((zs.idxOf x : Nat) : Int) := by
  have h0 : 0 < zs.length := List.length_pos_of_mem hx
  have e1 := sum_q h nd h0 hx
  have e2 := sum_q (first_sta nd h0) nd h0 hx
  have e3 : ∀ y ∈ zs, qN zs (firstKv zs) x y + netP zs kvs x y = qN zs kvs x y := fun y hy => by
    have e : qN zs (firstKv zs) x y = (((zs.idxOf x : Nat) : Int) - ((zs.idxOf y : Nat) : Int)) / (zs.length : Int) := by
      unfold qN
      rw [first_kv nd, place_kv hx, place_kv hy]
    unfold netP
    omega
  have e4 := sum_congr e3
  rw [sum_add (f := fun y => qN zs (firstKv zs) x y) (g := fun y => netP zs kvs x y), e1, e2, first_kv nd, place_kv hx] at e4
  omega
theorem filt_sum {f : Str → Int} {x : Str} (h : f x = 0) : ∀ {l : List Str}, ((l.filter fun y => decide (y ≠ x)).map f).sum = (l.map f).sum
  | [] => rfl
  | y :: r => by
    rw [List.map_cons, List.sum_cons, ← filt_sum h (l := r), List.filter_cons]
    by_cases e : y = x
    · subst e
      rw [if_neg (by simp), h, Int.zero_add]
    · rw [if_pos (decide_eq_true e), List.map_cons, List.sum_cons]
def netF (zs : List Str) (kvs : List (Key × V)) (p : Str × Str) : Int := netP zs kvs p.1 p.2
theorem placed_row {zs ks row : List Str} {kvs : List (Key × V)} (h : Sta zs ks kvs) (nd : zs.Nodup) (hp : row.Perm zs) {x : Str} (hx : x ∈ zs) : placedG row (netF zs kvs) x = ((row.idxOf x : Nat) : Int) + placeOf kvs x - ((zs.idxOf x : Nat) : Int) := by
  unfold placedG netF
  rw [filt_sum (f := fun y => netP zs kvs x y) net_self, perm_sum (hp.map fun y => netP zs kvs x y), sum_net h nd hx]
  omega
theorem idx_app {l m : List Str} {x : Str} (h : x ∈ l) : (l ++ m).idxOf x = l.idxOf x := by rw [List.idxOf_append, if_pos h]
theorem idx_app2 {l m : List Str} {x : Str} (h : x ∉ l) : (l ++ m).idxOf x = l.length + m.idxOf x := by rw [List.idxOf_append, if_neg h, Nat.add_comm]
theorem div_shift {n d k : Int} (hn : n ≠ 0) : (d + n * k) / n = d / n + k := by rw [Int.add_mul_ediv_left _ _ hn]
end RK

namespace RK
open PySem L2
def spLoose0 (K : PySem.W.Frag) : Sp := fun vs H Q _ => ∃ (a : Addr) (v : V) (k : Kd), vs = [.ref a, v] ∧ Th K H v k ∧ k.isSeq = false ∧ ∀ H', Same H H' → Q v H'
def spLoose1 (K : PySem.W.Frag) : Sp := fun vs H Q _ => ∃ (a l : Addr) (xs : List V) (m : Nat), vs = [.ref a, .ref l] ∧ a ≠ l ∧ SpAt H a m ∧ m < 3000000000 ∧ H l = some (.lst xs) ∧ xs.length ≤ 1000 ∧ (∀ x ∈ xs, ∃ k, Th K H x k ∧ k.isSeq = false) ∧
  ∀ p k H', SeqAt2 H' p xs k → p ≠ a → SpAt H' a (m + 1) → But a H H' → Q (.ref p) H'
section
variable {P : Program} {w : World} {K : PySem.W.Frag} {mg : Str → Option Value} {base : Heap}
theorem scLoose : FnScope ["draws", "thing", "found", "part"] ["draws", "thing"] (defScope sLoose) := ⟨rfl, rfl, rfl, by decide +kernel, rfl, by decide +kernel, by decide +kernel⟩
theorem ok_loose0 {f : Addr} {fd : FuncData} (F : Fun K "_law_loose" "_law_loose" sLoose f fd) (B : B0 K mg) : FnOk P w K mg base CX0 1 f fd ["draws", "thing"] (spLoose0 K) := by
  refine F.ok scLoose (fun vs H Q E h => ?_) (fun cdv A outer s H vs Q E hr h => ?_)
  · obtain ⟨a, v, k, rfl, _⟩ := h
    rfl
  · obtain ⟨a, v, k, rfl, ht, hk, q⟩ := h
    refine ⟨_, pss_cons (ps_if (pt_val (pe_callB call_isiTZ (by rfl) B.isi (by decide +kernel) (pa_cons (pv 1) (pa_cons (pe_tup (pa_cons (pe_bltn (v := .ty "list") (by rfl) B.list (by decide +kernel) rfl) (pa_cons (pe_bltn (v := .ty "tuple") (by rfl) B.tuple (by decide +kernel) rfl) pa_nil))) pa_nil)))) pss_never pss_nil) (pss_one (ps_ret (pv 1))), ?_⟩
    refine ⟨_, rfl, by show 2 ≤ sizeLine; decide, fun p hp => ?_⟩
    have s1 := same_upd (o := .tup [.ty "list", .ty "tuple"]) hp
    exact ⟨v, p, [.ty "list", .ty "tuple"], _, [.type "list", .type "tuple"], false, rfl, upd_same, .cons (.ty _) (.cons (.ty _) .nil), (ht.same s1).ty, hk ▸ kit_seq k, false, rfl, iteF ⟨_, rfl, q _ s1⟩⟩
theorem ok_loose1 {f fD : Addr} {fd fdD : FuncData} (F : Fun K "_law_loose" "_law_loose" sLoose f fd) (B : B0 K mg) (bF : Binds K fd ["draws", "thing"] []) (gF : mg "_law_loose" = some (.ref f))
    (GD : FnOk P w K mg base CX0 1 fD fdD ["draws", "many"] spDraw) (bD : Binds K fdD ["draws", "many"] []) (gD : mg "_law_draw" = some (.ref fD)) (kD : PySem.W.keepIn K (.ref fD) = true) :
    FnOk P w K mg base CX0 2 f fd ["draws", "thing"] (spLoose1 K) := by
  have G : FnOk P w K mg base CX0 1 f fd ["draws", "thing"] (spLoose0 K) := ok_loose0 F B
  refine F.ok scLoose (fun vs H Q E h => ?_) (fun cdv A outer s H vs Q E hr h => ?_)
  · obtain ⟨a, l, xs, m, rfl, _⟩ := h
    rfl
  · obtain ⟨a, l, xs, m, rfl, hal, hsp, hm, hl, h1, hth, q⟩ := h
    refine ⟨_, pss_cons (ps_if (pt_val (pe_callB call_isiTZ (by rfl) B.isi (by decide +kernel) (pa_cons (pv 1) (pa_cons (pe_tup (pa_cons (pe_bltn (v := .ty "list") (by rfl) B.list (by decide +kernel) rfl) (pa_cons (pe_bltn (v := .ty "tuple") (by rfl) B.tuple (by decide +kernel) rfl) pa_nil))) pa_nil))))
      (pss_cons (ps_setLc (i := 2) (te := tCall (spLoose0 K) [] E0 (tCons (tVar 0) (tCons (tVar 3) tNil))) (own := [("part", 3)]) (g := gName 3) (tt := tYes) rfl scLoose.nd rfl rfl (by rfl) (pi_list (pv 1)) (blkOk_by (N := ["draws", "thing", "found", "part"]) (sc := defScope sLoose) (by decide +kernel))
        (fun _ _ _ _ _ => pg_name (i := 3) scLoose.nd rfl (Or.inl rfl)) (fun _ _ _ _ _ => pts_nil) (fun _ _ _ _ _ => by exact (pe_call G hr (by rfl) gF F.kp bF .nil pass0 (pa_cons (pv 0) (pa_cons (pv 3) pa_nil)))))
      (pss_one (ps_ret (pe_ifExp (pt_cmpR op_eq (pe_call GD hr (by rfl) gD kD bD .nil pass0 (pa_cons (pv 0) (pa_cons pe_int pa_nil))) pe_int (nomark _)) (pv 2) (pe_callTy call_tuple_of (by rfl) B.tuple (by decide +kernel) (pa_cons (pv 2) pa_nil)))))) pss_nil) (pss_one (ps_ret (pv 1))), ?_⟩
    obtain ⟨osp, hosp, _⟩ := id hsp
    refine ⟨_, rfl, by show 2 ≤ sizeLine; decide, fun p hp => ?_⟩
    have s1 := same_upd (o := .tup [.ty "list", .ty "tuple"]) hp
    refine ⟨.ref l, p, [.ty "list", .ty "tuple"], _, [.type "list", .type "tuple"], true, rfl, upd_same, .cons (.ty _) (.cons (.ty _) .nil), (Th.lst (K := K) (s1 _ _ hl)).ty, kit_seq .list, true, rfl, iteT ?_⟩
    generalize upd H p (.tup [.ty "list", .ty "tuple"]) = H1 at s1
    refine ⟨_, rfl, l, rfl, ⟨_, SqL.of (s1 _ _ hl)⟩, fun D hD => ?_⟩
    refine lc_it (walk_list (K := K) (a := l) (xs := xs)) (fun i G => Same H1 G ∧ G D = some (.lst (xs.take i))) ⟨same_upd hD, upd_same⟩ (fun i G _ p => SqL.of (p.1 _ _ (s1 _ _ hl))) ?_ ?_
    · rintro i x G G' hi ⟨sm, hacc⟩ ⟨rfl, hx⟩
      obtain ⟨k, hk, hks⟩ := hth x (List.mem_of_getElem? hx)
      refine ⟨rfl, tyes ?_⟩
      refine ⟨_, rfl, _, rfl, a, x, k, rfl, (hk.same s1).same sm, hks, fun G3 s3 => ⟨_, s3 _ _ hacc, ?_, fun b u hb => ?_, ?_⟩⟩
      · rw [List.length_take]
        exact Nat.lt_of_le_of_lt (Nat.le_trans (Nat.min_le_right _ _) h1) (by decide)
      · rw [upd_ne (ne_of_none hb hD)]
        exact s3 _ _ (sm _ _ hb)
      · rw [upd_same, take_more hx]
    · rintro G ⟨sm, hacc⟩
      rw [List.take_length] at hacc
      have hspG : SpAt G a m := SpAt.same (SpAt.same hsp s1) sm
      have haD : a ≠ D := ne_of_none (s1 _ _ hosp) hD
      refine ⟨_, rfl, a, 2, m, rfl, by decide, by decide, hspG, by omega, fun r o hr0 hr1 ho => ?_⟩
      have b2 : But a H (upd G a o) := (Same.but s1).trans ((Same.but sm).trans But.upd)
      have hD2 : (upd G a o) D = some (.lst xs) := by rw [upd_ne (Ne.symm haD)]; exact hacc
      have hsp2 : SpAt (upd G a o) a (m + 1) := ⟨o, upd_same, ho⟩
      generalize upd G a o = G2 at b2 hD2 hsp2
      refine ⟨rfl, _, rfl, ?_⟩
      refine ite2 (fun h => ?_) (fun h => ?_)
      · exact ⟨_, rfl, q D .list G2 (.inl ⟨hD2, rfl⟩) (Ne.symm haD) hsp2 b2⟩
      · refine ⟨_, rfl, D, xs, rfl, .inl ⟨SqL.of hD2, fun T hT => ?_⟩⟩
        have s3 := same_upd (o := .tup xs) hT
        refine q T .tup _ (.inr ⟨upd_same, rfl⟩) (fun e => hsp2.ne (by rw [← e]; exact hT)) (SpAt.same hsp2 s3) (b2.trans (Same.but s3))
end
end RK

namespace RK
open PySem L2
/-! ### how far, the law's own net -/
def spFar : Sp := fun vs H Q _ => ∃ (a : Addr) (k m : Nat), vs = [.ref a, .int (k : Nat)] ∧ 2 ≤ k ∧ k ≤ 1000 ∧ SpAt H a m ∧ m < 1000000000 ∧
  ∀ (N : Nat) H', N < 400000000000000000 → SpAt H' a (m + 1) → But a H H' → Q (.int (N : Nat)) H'
def spQNet : Sp := fun vs H Q _ => ∃ (n d : Addr) (zs : List Str) (kvs : List (Key × V)) (a b : Str), vs = [.ref n, .ref d, .str a, .str b] ∧ H n = some (.lst (zs.map V.str)) ∧ H d = some (.dK kvs) ∧ (∀ z ∈ zs, valV kvs (Sum.inr z : Key) = some (.int (placeOf kvs z))) ∧ a ∈ zs ∧ b ∈ zs ∧ zs.length ≤ 1000 ∧ ∀ H', Same H H' → Q (.int (netP zs kvs a b)) H'
section
variable {P : Program} {w : World} {K : PySem.W.Frag} {mg : Str → Option Value} {base : Heap}
end
end RK

namespace RK
open PySem L2
/-! ### the law's pairs, table, places by nets -/
section
variable {P : Program} {w : World} {K : PySem.W.Frag} {mg : Str → Option Value} {base : Heap}
end
end RK

/-! what may be a list or a tuple is walked -/
namespace L2
open PySem PySem.Spec PyProof.Rows
def iEi (K : PySem.W.Frag) (tl : TE) : TI := fun σ H R => tl σ H fun x H1 => ∃ a xs, x = .ref a ∧ ((SqL K H1 a xs ∧ R (Itl K a) H1) ∨ (SqT K H1 a xs ∧ R (Itt K a) H1))
theorem pi_ei {X : Cx} {tg l : Expr} {tl : TE} (hl : PE X l tl) : PI X tg l (iEi X.K tl) := by
  refine ⟨fun pins s σ H R I h => ?_⟩
  refine thn (hl.run pins s σ H _ I h) fun v s1 ⟨x, H1, I1, r1, q1⟩ => ?_
  obtain ⟨a, xs, rfl, q1⟩ := q1
  cases r1
  have new : ∀ b ∈ [s1.heap.objs.size], s1.heap.objs.size ≤ b := fun b hb => Nat.le_of_eq (List.mem_singleton.mp hb).symm
  rcases q1 with ⟨hq, q⟩ | ⟨hq, q⟩
  · obtain ⟨its, rv, lay, _⟩ := I1.list hq
    exact wpAny_pyIter_list lay.isList ⟨s1.heap.objs.size, [s1.heap.objs.size], _, _, H1, rfl, I1.kept (t' := s1.toks) fun b o e => Heap.get?_push_of_some _ e, turn_list a _, ⟨_, Heap.get?_push_size _ rfl, rfl, rfl⟩, fun b hb => I1.fpOk (new b hb) (I1.hok.fresh (new b hb)), q⟩
  · obtain ⟨its, rv, lay, _⟩ := I1.tuple hq
    exact wpAny_pyIter_tuple (show s1.heap.IsTuple a its.toArray from lay) ⟨s1.heap.objs.size, [s1.heap.objs.size], _, _, H1, rfl, I1.kept (t' := s1.toks) fun b o e => Heap.get?_push_of_some _ e, turn_tuple a _, ⟨_, Heap.get?_push_size _ rfl, rfl, rfl⟩, fun b hb => I1.fpOk (new b hb) (I1.hok.fresh (new b hb)), q⟩
end L2

/-! a dict comprehension whose keys are tuples of ints and texts -/
namespace L2
open PySem PySem.Spec PyProof.Rows
theorem d_dictSetT {X : Cx} {pins : List (Addr × Obj)} {σ : St} {H : Hp} {s : Shared} {E : Value → Shared → Prop} {D T : Addr} {ks : List Key} {kvs : List (List Key × V)} {z : V} {u r : Value} {Q : Unit → Shared → Prop} (hu : X.A.units + 1 < cLine) (I : Inv X pins σ H s)
    (ry : RelV (.ref T) u) (hT : H T = some (.tup (ks.map kV))) (rz : RelV z r) (hD : H D = some (.dT kvs)) (room : kvs.length < sizeLine) (fin : ∀ s', Inv X pins σ (upd H D (.dT (putK kvs ks z))) s' → Q () s') : wpAny (model X.prog X.w) X.A (dictSet D u r) Q E s := by
  cases (show u = Value.ref T from ry)
  obtain ⟨small, low, xs, rel, stands⟩ := dt_of I.hok hD
  have few : xs.length ≤ sizeLine := by rw [← Paired.length rel]; exact small
  have more : (putK kvs ks z).length ≤ sizeLine := Nat.le_trans (length_putK kvs ks z) room
  refine wpAny_dictSet_heap (hsz := few) (show (tupleKind (mixKind X.prog X.w)).room X.A from Nat.lt_of_succ_lt hu) (key_of I.hok hT) stands fun h' stands' same => fin _ ?_
  obtain ⟨o, es, ep, at', exact', data', keys', _, rest'⟩ := stands'
  refine d_write I (by rw [hD]; exact True.intro) same ⟨o, at'⟩ ⟨more, low, _, (rel.put ks hT rz).keeps fun c ys ec => ?_, o, es, ep, at', exact', data', keys', rest'⟩
  rw [upd_ne (ne_of ec hD (fun z => nomatch z))]
  exact ec
/-- what a turn owes: the value into the dict at D, under the tuple that was made, then the next turn's wish -/
def PairIn (D : Addr) (Nx : Hp → Prop) : V → V → Hp → Prop := fun y z G => ∃ (T : Addr) (ks : List Key) (kvs : List (List Key × V)), y = .ref T ∧ G T = some (.tup (ks.map kV)) ∧ G D = some (.dT kvs) ∧ kvs.length < sizeLine ∧ Nx (upd G D (.dT (putK kvs ks z)))
def DTurnT (D : Addr) (g : TG) (tt : TT) (tk te : TE) (vs : List Nat) (σ : St) (Nx : Hp → Prop) (x : V) (G : Hp) : Prop :=
  g x (wipe σ vs) G fun ρ G1 => wipe ρ vs = wipe σ vs ∧ tt ρ G1 fun b G2 => if b = true then tk ρ G2 fun y G3 => te ρ G3 fun z G4 => PairIn D Nx y z G4 else Nx G2
def DWalkT (J : It) (D : Addr) (g : TG) (tt : TT) (tk te : TE) (vs : List Nat) (σ : St) (H1 : Hp) (Qd : Hp → Prop) : Prop :=
  ∃ W : Nat → Nat → Hp → Prop, (∃ m, W 0 m (upd H1 D (.dT []))) ∧ ∀ i m G, W i m G →
    (J.stop i G ∧ Qd G) ∨ (J.go i G ∧ ∃ Nx : Hp → Prop, (∀ G', Nx G' → ∃ m', m' < m ∧ W (i + 1) m' G') ∧ ∀ x G', J.yld i G x G' → DTurnT D g tt tk te vs σ Nx x G')
def tDcT (wi : TI) (g : TG) (tt : TT) (tk te : TE) (vs : List Nat) : TE := fun σ H Q => wi σ H fun J H1 => ∀ D, H1 D = none → DWalkT J D g tt tk te vs σ H1 fun G => Q (.ref D) G
section
variable {X : Cx} {kx elt tg iter : Expr} {ifs : List Expr} {scope : Scope} {own : List (Str × Nat)} {wi : TI} {g : TG} {tt : TT} {tk te : TE}
/-- the block's four parts, wherever it stands -/
structure Blk4 (X : Cx) (tg kx elt : Expr) (ifs : List Expr) (scope : Scope) (g : TG) (tt : TT) (tk te : TE) : Prop where
  tgt : ∀ (u : Shared) (G : Hp) (L : Addr) (cl : List (Str × Addr)) (fp : List Addr), PG (X.blk u G scope (compEnvC scope cl L X.env) fp) tg g
  tst : ∀ (u : Shared) (G : Hp) (L : Addr) (cl : List (Str × Addr)) (fp : List Addr), PTs (X.blk u G scope (compEnvC scope cl L X.env) fp) ifs tt
  key : ∀ (u : Shared) (G : Hp) (L : Addr) (cl : List (Str × Addr)) (fp : List Addr), PE (X.blk u G scope (compEnvC scope cl L X.env) fp) kx tk
  elm : ∀ (u : Shared) (G : Hp) (L : Addr) (cl : List (Str × Addr)) (fp : List Addr), PE (X.blk u G scope (compEnvC scope cl L X.env) fp) elt te
theorem dcT_core {pins : List (Addr × Obj)} {s : Shared} {σ : St} {H : Hp} {Q : VK} {pos pos' : Pos} {use : Option (Value → Sem Unit)} {Qf : Value → Shared → Prop} (hu : X.A.units + 1 < cLine) (hc : X.calm = true) (hN : X.N.Nodup) (Inow : Inv X pins σ H s) (hi : PI X tg iter wi) (ok : BlkOk X.N X.env.scope scope own)
    (B : Blk4 X tg kx elt ifs scope g tt tk te) (hfold : ∀ x, foldedSetIterable iter X.env x = pure x) (h : tDcT wi g tt tk te (own.map (·.2)) σ H Q)
    (hend : ∀ D L u m G, Inv X pins σ G u → Q (.ref D) G → u.heap.Ns L m → FpOk X pins G L → compPost (model X.prog X.w) X.A X.xe use Qf (.ref D) L (.ok .next) u) :
    wpAny (model X.prog X.w) X.A (comprehension (.DictComp kx elt [⟨tg, iter, ifs, 0⟩] scope pos) scope X.env pos' newDict false (eval iter X.env) use) Qf X.xe s := by
  have free : ∀ y ∈ scope.names, y.2 = .free → ∃ c, X.env.cells.lookup y.1 = some c := fun y hy e => (ok.free y hy e).elim (fun k => Inow.ok.has _ (.inl k)) fun k => Inow.ok.has _ (.inr k)
  refine wpAny_comprehension_free (use := use) rfl hfold (closure_ok free) ok.kind (fun y hy e => by rw [ok.uniq y hy, e]) (thn (hi.run pins s σ H _ Inow h) fun xv u1 hx => thn hx fun itv u2 got => ?_)
  obtain ⟨it, fp, tn, J, G2, rfl, I2, T, at0, own2, walk⟩ := got
  refine wpAny_newObj_type (newEnv_comp ?_)
  generalize hD : u2.heap.objs.size = D
  have fresh : G2 D = none := I2.hok.fresh (Nat.le_of_eq hD)
  obtain ⟨W, ⟨m0, begins⟩, turn⟩ := walk D fresh
  -- the empty dict stands
  generalize hG3 : upd G2 D (.dT []) = G3 at begins
  generalize hu3 : ({ u2 with heap := u2.heap.push { cls := .type "dict", data := .dict #[] } } : Shared) = u3
  have p3 : u3.heap = u2.heap.push { cls := .type "dict", data := .dict #[] } := by rw [← hu3]
  have I3 : Inv X pins σ G3 u3 := by
    rw [← hG3, ← hu3]
    refine I2.laid (t' := u2.toks) (fun b o e => Heap.get?_push_of_some _ e) (Nat.le_of_eq hD) ?_
    rw [← hD]
    exact dt_empty u2.heap I2.big
  have below : ∀ b ∈ fp, b < u2.heap.objs.size := fun b hb => let ⟨_, e, _⟩ := T.obj _ _ at0 b hb; Heap.lt_size e
  have own3 : ∀ b ∈ fp, FpOk X pins G3 b ∧ b < u3.heap.objs.size := fun b hb => by
    have lt := below b hb
    refine ⟨⟨?_, (own2 b hb).2⟩, by rw [p3, Heap.size_push]; exact Nat.lt_succ_of_lt lt⟩
    rw [← hG3, upd_ne (by rw [← hD]; exact Nat.ne_of_lt lt)]
    exact (own2 b hb).1
  have at3 : tn 0 u3.heap := T.keep _ _ _ at0 fun b _ o e => by rw [p3]; exact Heap.get?_push_of_some _ e
  have I4 := block_start I3 ok hN own3
  have pg := B.tgt u3 G3 u3.heap.objs.size (cellsFrom (u3.heap.objs.size + 1) scope.names (cloFrom X.env.cells scope.names [])) fp
  have pt := B.tst u3 G3 u3.heap.objs.size (cellsFrom (u3.heap.objs.size + 1) scope.names (cloFrom X.env.cells scope.names [])) fp
  have pk := B.key u3 G3 u3.heap.objs.size (cellsFrom (u3.heap.objs.size + 1) scope.names (cloFrom X.env.cells scope.names [])) fp
  have pe := B.elm u3 G3 u3.heap.objs.size (cellsFrom (u3.heap.objs.size + 1) scope.names (cloFrom X.env.cells scope.names [])) fp
  have no3 : ∀ b ∈ fp, G3 b = none := fun b hb => (own3 b hb).1.1
  show codeAny _ _ (.compStart (.DictComp kx elt [⟨tg, iter, ifs, 0⟩] scope pos) 0 (.ref it) (.ref D) (compEnvC scope (cellsFrom (u3.heap.objs.size + 1) scope.names (cloFrom X.env.cells scope.names [])) u3.heap.objs.size X.env)) (compPost (model X.prog X.w) X.A X.xe use Qf (.ref D) u3.heap.objs.size) { u3 with heap := pushCells (u3.heap.push { cls := .type "dict", data := .dict #[] }) scope.names }
  generalize hce : compEnvC scope (cellsFrom (u3.heap.objs.size + 1) scope.names (cloFrom X.env.cells scope.names [])) u3.heap.objs.size X.env = ce at I4 pg pt pk pe ⊢
  have lce : ce.locals = u3.heap.objs.size := by rw [← hce] <;> rfl
  generalize hu4 : ({ u3 with heap := pushCells (u3.heap.push { cls := .type "dict", data := .dict #[] }) scope.names } : Shared) = u4 at I4 ⊢
  have at4 : tn 0 u4.heap := T.keep _ _ _ at3 fun b _ o e => by rw [← hu4]; exact pushCells_keeps _ _ _ _ (Heap.get?_push_of_some _ e)
  generalize hY : X.blk u3 G3 scope ce fp = Y at I4 pg pt pk pe
  have Yu : Y.A.units + 1 < cLine := by rw [← hY]; exact hu
  have held : ∀ {ρ : St} {G : Hp} {u : Shared}, Inv Y [] ρ G u → (∀ b ∈ fp, G b = none) → ∀ b ∈ fp, FpOk Y [] G b := fun {ρ G u} I' no b hb => by
    subst hY
    exact ⟨no b hb, (I'.ok.exf b hb).1, I'.ok.exfs b hb, .inl hb, fun x c e => (I'.ok.exf b hb).2 x c e, fun p hp => absurd (show p ∈ ([] : List (Addr × Obj)) ++ [] from hp) (by simp)⟩
  have loop : codeAny (model X.prog X.w) X.A (.compLoop (.DictComp kx elt [⟨tg, iter, ifs, 0⟩] scope pos) 0 (.ref it) (.ref D) ce) (compPost (model X.prog X.w) X.A X.xe use Qf (.ref D) u3.heap.objs.size) u4 := by
    refine compLoop_anyD (fun n u => ∃ i G, Inv Y [] (wipe σ (own.map (·.2))) G u ∧ tn i u.heap ∧ (∀ b ∈ fp, G b = none) ∧ W i n G) ?_ m0 ⟨0, G3, I4, at4, no3, begins⟩
    rintro n u5 ⟨i, G5, I5, at5, no5, w5⟩
    have TY := fun (go : Bool) => held I5 no5
    subst hY
    rcases turn i n G5 w5 with ⟨stop, qq⟩ | ⟨go, Nx, hNx, step⟩
    · refine thnF (T.done (X.blk u3 G3 scope ce fp) rfl rfl rfl hc i [] u5 _ G5 (fun _ _ => False) I5 (held I5 no5) at5 stop) fun r u6 ⟨hr, I6⟩ => ?_
      subst hr
      have back : Inv X pins σ G5 u6 := I3.call' (ch := fp) I6.os I6.base I6.hok I6.bare fun b hb => let z := (own3 b hb).1; ⟨z.2.2.2.1, z.2.1, z.2.2.2.2.1, z.2.2.2.2.2⟩
      have nL : G5 u3.heap.objs.size = none := lce ▸ (I6.free : G5 ce.locals = none)
      obtain ⟨m, ns, _⟩ := I6.loc
      exact hend D u3.heap.objs.size u6 m G5 back qq (lce ▸ (ns : u6.heap.Ns ce.locals m)) (I3.fpOk (Nat.le_refl _) nL)
    · refine thnF (T.item (X.blk u3 G3 scope ce fp) rfl rfl rfl hc i [] u5 _ G5 (fun _ _ => False) I5 (held I5 no5) at5 go) fun r u6 ⟨u, hr, h6⟩ => ?_
      subst hr
      refine thnF h6 fun _ u7 ⟨x, G7, I7, r7, y7, at7, no7⟩ => ?_
      refine thnF (pg.run _ u7 _ G7 x u _ (I7.pinned (held I7 no7) (T.obj _ _ at7)) r7 (step x G7 y7)) fun _ u8 ⟨ρ, G8, I8, same, q8⟩ => ?_
      refine thnF (pt.run _ u8 ρ G8 _ I8 q8) fun b u9 ⟨G9, I9, q9⟩ => ?_
      have next : ∀ {u' : Shared} {G' : Hp}, Inv (X.blk u3 G3 scope ce fp) ([] ++ pinsAt fp u7.heap) ρ G' u' → Nx G' → ∃ m, m < n ∧ ∃ i G, Inv (X.blk u3 G3 scope ce fp) [] (wipe σ (own.map (·.2))) G u' ∧ tn i u'.heap ∧ (∀ b ∈ fp, G b = none) ∧ W i m G := fun {u' G'} I' nx => by
        obtain ⟨m', less, w'⟩ := hNx G' nx
        have pinned : ∀ b ∈ fp, ∀ o, u7.heap.get? b = some o → u'.heap.get? b = some o ∧ G' b = none := fun b hb o e => let z := I'.pin (b, o) (List.mem_append_right _ (List.mem_append_right _ (mem_pinsAt hb e))); ⟨z.1, z.2.1⟩
        have hl : (wipe σ (own.map (·.2))).length = ρ.length := by rw [← same, wipe_length]
        refine ⟨m', less, i + 1, G', (I'.unpinned (pins := [])).weak hl (fun j v e => ?_), T.keep _ _ _ at7 fun b hb o e => (pinned b hb o e).1, fun b hb => ?_, w'⟩
        · rw [← same] at e
          exact (wipe_some e).1
        · obtain ⟨o, e, _⟩ := T.obj _ _ at7 b hb
          exact (pinned b hb o e).2
      cases b with
      | false =>
        rw [if_neg Bool.false_ne_true] at q9 ⊢
        exact next I9 q9
      | true =>
        rw [if_pos rfl] at q9 ⊢
        refine thnF (pk.run _ u9 ρ G9 _ I9 q9) fun z u10 ⟨yv, G10, I10, r10, q10⟩ => ?_
        refine thnF (pe.run _ u10 ρ G10 _ I10 q10) fun z2 u11 ⟨zv, G11, I11, r11, T0, ks0, kvs0, ey, atT, at11, room, nx⟩ => ?_
        exact d_dictSetT (X := X.blk u3 G3 scope ce fp) Yu I11 (ey ▸ r10) atT r11 at11 room fun u12 I12 => next I12 nx
  exact codeAny_compStart_dict loop (T.self X.A 0 _ _ _ at4 loop)
theorem pe_dcT {pos : Pos} (hu : X.A.units + 1 < cLine) (hc : X.calm = true) (hN : X.N.Nodup) (hi : PI X tg iter wi) (ok : BlkOk X.N X.env.scope scope own) (B : Blk4 X tg kx elt ifs scope g tt tk te) (hfold : ∀ x, foldedSetIterable iter X.env x = pure x := by intro _; rfl) :
    PE X (.DictComp kx elt [⟨tg, iter, ifs, 0⟩] scope pos) (tDcT wi g tt tk te (own.map (·.2))) := by
  refine ⟨fun pins s σ H Q I h => ?_⟩
  rw [arm_eval_DictComp]
  refine dcT_core hu hc hN I hi ok B hfold h fun D L u m G I' q ns f => ⟨m, ns, fun h'' sb => ?_⟩
  obtain ⟨f0, f1, f2, f3, f4, f5⟩ := f
  exact ⟨.ref D, G, I'.turned (t' := u.toks) (fun b o hb e => (sb.2 b hb).trans e) f0 f1 f3 f4 f5, rfl, q⟩
end
section
variable {J : It} {n : Nat} {Gd : Hp → Prop} {Y : Nat → Hp → V → Hp → Prop}
/-- over anything that is walked: Pv by the turn and the heap (the new dict at D within) -/
theorem dcT_it (w : Walk J n Gd Y) {g : TG} {tt : TT} {tk te : TE} {vs : List Nat} {σ : St} {H1 : Hp} {D : Addr} {Qd : Hp → Prop} (Pv : Nat → Hp → Prop) (h0 : Pv 0 (upd H1 D (.dT []))) (hG : ∀ i G, i ≤ n → Pv i G → Gd G)
    (each : ∀ i x G G', i < n → Pv i G → Y i G x G' → DTurnT D g tt tk te vs σ (Pv (i + 1)) x G') (hd : ∀ G, Pv n G → Qd G) : DWalkT J D g tt tk te vs σ H1 Qd := by
  refine ⟨fun i m G => m = n - i ∧ i ≤ n ∧ Pv i G, ⟨n, rfl, Nat.zero_le n, h0⟩, ?_⟩
  rintro i m G ⟨em, le, pv⟩
  have gd := hG i G le pv
  rcases Nat.lt_or_ge i n with lt | ge
  · exact .inr ⟨w.goes i G lt gd, Pv (i + 1), fun G' pv' => ⟨n - (i + 1), by omega, rfl, lt, pv'⟩, fun x G' y => each i x G G' lt pv (w.yields i G x G' lt gd y)⟩
  · have ei : i = n := Nat.le_antisymm le ge
    rw [ei] at pv ⊢
    exact .inl ⟨w.stops G gd, hd G pv⟩
end
end L2

/-! dict(l) of a list of pairs whose keys are tuples -/
namespace L2
open PySem PySem.Spec PyProof.Rows
def mergedH {κ : Type} [DecidableEq κ] (acc more : List (κ × Addr × Value)) : List (κ × Addr × Value) := more.foldl (fun a q => storedH a q.1 q.2.1 q.2.2) acc
def mergeT (kvs more : List (List Key × V)) : List (List Key × V) := more.foldl (fun acc kv => putK acc kv.1 kv.2) kvs
theorem storedH_le {κ : Type} [DecidableEq κ] (xs : List (κ × Addr × Value)) (k : κ) (a : Addr) (v : Value) : (storedH xs k a v).length ≤ xs.length + 1 := by
  unfold storedH
  split
  · rw [List.length_map]; omega
  · rw [List.length_append]; exact Nat.le_refl _
theorem mem_stored {κ : Type} [DecidableEq κ] {xs : List (κ × Addr × Value)} {k : κ} {a : Addr} {v : Value} {x : κ × Addr × Value} (h : x ∈ storedH xs k a v) : (∃ y ∈ xs, y.2.1 = x.2.1) ∨ x.2.1 = a := by
  unfold storedH at h
  split at h
  · obtain ⟨y, hy, e⟩ := List.mem_map.mp h
    refine .inl ⟨y, hy, ?_⟩
    rw [← e]
    unfold putAt
    split <;> rfl
  · rcases List.mem_append.mp h with q | q
    · exact .inl ⟨x, q, rfl⟩
    · rw [List.mem_singleton.mp q]
      exact .inr rfl
theorem tkey_at {P : Program} {w : World} {h h' : Heap} {ks : List Key} {a : Addr} (x : (tupleKind (mixKind P w)).is h ks a) (k : ∀ o, h.get? a = some o → h'.get? a = some o) : (tupleKind (mixKind P w)).is h' ks a := by
  obtain ⟨o, its, n, h1, h2, h3, h4⟩ := x
  exact ⟨o, its, n, k _ h1, h2, h3, h4⟩
theorem dH_at {P : Program} {w : World} {h h' : Heap} {d : Addr} {xs : List (List Key × Addr × Value)} (x : h.DictOfH (tupleKind (mixKind P w)) d xs) (kd : ∀ o, h.get? d = some o → h'.get? d = some o) (kk : ∀ y ∈ xs, ∀ o, h.get? y.2.1 = some o → h'.get? y.2.1 = some o) : h'.DictOfH (tupleKind (mixKind P w)) d xs := by
  obtain ⟨o, es, ep, h1, h2, h3, h4, h5, h6⟩ := x
  exact ⟨o, es, ep, kd _ h1, h2, h3, h4, fun y hy => tkey_at (h5 y hy) (kk y hy), h6⟩
section
variable {prog : Program} {w : World} {A : Around} {E : Value → Shared → Prop}
theorem upd_loopT {R : Result → Shared → Prop} {S I l : Addr} {items : Array Value} {res : Value} (hr : A.units + 1 < cLine) (hh : A.handled = none) (hlI : l ≠ I) (hSI : S ≠ I) (hSl : S ≠ l) :
    ∀ (rest : List (List Key × Addr × Value)) (i : Nat) (acc : List (List Key × Addr × Value)) (ix : Int) (t : Tok) (s : Shared), items.size = i + rest.length → acc.length + rest.length ≤ sizeLine →
      (∀ (j : Nat) (q : List Key × Addr × Value), rest[j]? = some q → ∃ b : Addr, items[i + j]? = some (.ref b) ∧ b ≠ S ∧ b ≠ I ∧ q.2.1 ≠ S ∧ q.2.1 ≠ I ∧ IsTup s.heap b #[.ref q.2.1, q.2.2] ∧ (tupleKind (mixKind prog w)).is s.heap q.1 q.2.1) →
      (∀ x ∈ acc, x.2.1 ≠ S ∧ x.2.1 ≠ I) → s.heap.IsListIter I l i → s.heap.IsList l items → s.heap.DictOfH (tupleKind (mixKind prog w)) S acc →
      (∀ h' tk, h'.DictOfH (tupleKind (mixKind prog w)) S (mergedH acc rest) → (∀ b o, b ≠ S → b ≠ I → s.heap.get? b = some o → h'.get? b = some o) → R (.ok (.ret res)) { s with heap := h', toks := tk }) →
      codeAny (model prog w) A (.builtin "dict.update.loop" ⟨[.ref S, .ref I, .int ix t, res], []⟩) R s
  | [], i, acc, ix, t, s, hsz, hln, ht, hac, hit, hl, hm, hR => by
    refine codeAny_builtin ud_entry ?_
    rw [Around.under_plainId ud_plain _]
    show wpAny _ A.in1 (pyNext (.ref I) >>= _) _ _ s
    refine wpAny_bind (wpAny_pyNext_list_end (A := A.in1) hh hit hl (by first | exact Array.getElem?_eq_none (Nat.le_of_eq hsz) | (simp at hsz; simp; omega)) fun h' he => ?_)
    show wpAny _ A.in1 (Builtin.Dict.addKeywords S [] >>= _) _ _ _
    refine wpAny_bind (wpAny_pure (wpAny_pure ?_))
    exact hR h' s.toks (dH_at hm (fun o e => he S o hSI e) fun y hy o e => he _ o (hac y hy).2 e) fun b o _ hb e => he b o hb e
  | q :: rest, i, acc, ix, t, s, hsz, hln, ht, hac, hit, hl, hm, hR => by
    obtain ⟨b, hb, hbS, hbI, hqS, hqI, htup, hk⟩ := ht 0 q rfl
    rw [List.length_cons] at hsz hln
    refine codeAny_builtin ud_entry ?_
    rw [Around.under_plainId ud_plain _]
    show wpAny _ A.in1 (pyNext (.ref I) >>= _) _ _ s
    refine wpAny_bind (wpAny_pyNext_list_item (x := .ref b) hit hl (by simpa using hb) fun h1 hit1 hs1 => ?_)
    have ht1 : IsTup h1 b #[.ref q.2.1, q.2.2] := htup.extBut hs1.extBut hbI
    have hl1 : h1.IsList l items := hl.extBut hs1.extBut hlI
    have hm1 : h1.DictOfH (tupleKind (mixKind prog w)) S acc := dH_at hm (fun o e => hs1.extBut S o hSI e) fun y hy o e => hs1.extBut _ o (hac y hy).2 e
    have hk1 : (tupleKind (mixKind prog w)).is h1 q.1 q.2.1 := tkey_at hk fun o e => hs1.extBut _ o hqI e
    obtain ⟨o, ho, hc, n, hd⟩ := id ht1
    show wpAny _ A.in1 (holding [Value.ref b] _ >>= _) _ _ _
    refine wpAny_bind (wpAny_holding ?_)
    refine wpAny_bind (wpAny_tryCatch ?_)
    unfold Builtin.Dict.pairItems
    refine wpAny_bind (wpAny_typeOf (T := "tuple") ⟨o, ho, hc⟩ ?_)
    rw [if_pos (by first | decide | rfl | simp)]
    refine wpAny_bind (wpAny_seqItems ho hd (wpAny_pure ?_))
    show wpAny _ A.in1 (holding [.ref q.2.1, q.2.2] (dictSet S (.ref q.2.1) q.2.2)) _ _ _
    refine wpAny_holding (wpAny_dictSet_heap (hsz := by omega) (show (tupleKind (mixKind prog w)).room A.in1 from hr) hk1 hm1 fun h2 hm2 hs2 => ?_)
    refine wpAny_pure ⟨plainId_quiet ud_plain _, upd_loopT (items := items) hr hh hlI hSI hSl rest (i + 1) (storedH acc q.1 q.2.1 q.2.2) (ix + 1) 0 _ (show items.size = i + 1 + rest.length by omega) ?_ (fun j q' e => ?_) (fun x hx => ?_) ?_ ?_ hm2 fun h' tk hd' k => ?_⟩
    · have z := storedH_le acc q.1 q.2.1 q.2.2
      omega
    · obtain ⟨b', hb', hbS', hbI', hqS', hqI', htup', hk'⟩ := ht (j + 1) q' (by simpa using e)
      refine ⟨b', ?_, hbS', hbI', hqS', hqI', (htup'.extBut hs1.extBut hbI').extBut hs2.extBut hbS', tkey_at (tkey_at hk' fun o e => hs1.extBut _ o hqI' e) fun o e => hs2.extBut _ o hqS' e⟩
      rw [show i + 1 + j = i + (j + 1) by omega]
      exact hb'
    · rcases mem_stored hx with ⟨y, hy, e⟩ | e
      · rw [← e]; exact hac y hy
      · rw [e]; exact ⟨hqS, hqI⟩
    · exact hit1.at fun o' e => hs2.extBut I o' (Ne.symm hSI) e
    · exact hl1.extBut hs2.extBut (Ne.symm hSl)
    · exact hR h' tk hd' fun c oc h3 h4 e => k c oc h3 h4 (hs2.extBut c oc h3 (hs1.extBut c oc h4 e))
theorem call_dict_pairsT {s : Shared} {l : Addr} {ol : Obj} {items : Array Value} {n : Nat} {prs : List (List Key × Addr × Value)} {Q : Value → Shared → Prop} (hr : A.units + 2 < cLine) (hh : A.handled = none) (hl : s.heap.get? l = some ol) (hc : ol.cls = .type "list") (hd : ol.dict = none)
    (hdat : ol.data = .seq items n) (hsz : items.size = prs.length) (hln : prs.length ≤ sizeLine)
    (ht : ∀ (j : Nat) (q : List Key × Addr × Value), prs[j]? = some q → ∃ b : Addr, items[j]? = some (.ref b) ∧ IsTup s.heap b #[.ref q.2.1, q.2.2] ∧ (tupleKind (mixKind prog w)).is s.heap q.1 q.2.1)
    (h : ∀ h' tk, h'.DictOfH (tupleKind (mixKind prog w)) s.heap.objs.size (mergedH [] prs) → (∀ b o, s.heap.get? b = some o → h'.get? b = some o) → Q (.ref s.heap.objs.size) { s with heap := h', toks := tk }) :
    wpAny (model prog w) A (call (.type "dict") [.ref l]) Q E s := by
  refine callType_codes (Q₁ := fun obj s₁ => obj = .ref s.heap.objs.size ∧ s₁ = { s with heap := s.heap.push { cls := .type "dict", data := .dict #[] } }) PySem.F.kt_called_dict (PySem.F.kt_typeCall_dict_1 _) PySem.F.entry_dict_init (kt_code_dict_new _ ⟨rfl, rfl⟩) ?_
  rintro obj s₁ ⟨rfl, rfl⟩
  have hnew : (s.heap.push { cls := .type "dict", data := .dict #[] }).DictOfH (tupleKind (mixKind prog w)) s.heap.objs.size [] := Heap.DictOfH.new s.heap
  have k0 : ∀ b o, s.heap.get? b = some o → (s.heap.push { cls := .type "dict", data := .dict #[] }).get? b = some o := fun b o e => Heap.get?_push_of_some _ e
  refine ⟨⟨_, Heap.get?_push_size _ rfl, rfl⟩, PySem.F.args_dict_init_2 _ _, ?_⟩
  unfold Builtin.«dict.__init__»
  refine wpAny_bind ?_
  unfold Builtin.Dict.selfAndRest
  refine wpAny_bind (wpAny_notOrdered_dict ⟨_, Heap.get?_push_size _ rfl, rfl⟩ ?_)
  show wpAny _ _ (pure (s.heap.objs.size, [Value.ref l])) _ _ _
  refine wpAny_pure ?_
  show wpAny _ _ (Builtin.Dict.updateFrom "dict.__init__" s.heap.objs.size (.ref l) [] .none) _ _ _
  unfold Builtin.Dict.updateFrom
  refine wpAny_bind (wpAny_typeOf (T := "list") ⟨ol, k0 _ _ hl, hc⟩ ?_)
  rw [if_pos (by first | decide | rfl | simp)]
  refine wpAny_bind (miss_list (k0 _ _ hl) hc hdat hd hh fun h1 tk1 hk1 => ?_)
  rw [if_pos (show (none : Option Value).isNone = true from rfl)]
  refine wpAny_bind (wpAny_rule ?_)
  have hl1 : h1.IsList l items := ⟨ol, hk1 _ _ (k0 _ _ hl), hc, n, hdat⟩
  have hS1 : s.heap.objs.size < h1.objs.size := by
    have e : (s.heap.push { cls := .type "dict", data := .dict #[] }).get? s.heap.objs.size = some { cls := .type "dict", data := .dict #[] } := Heap.get?_push_size _ rfl
    exact Heap.lt_size (hk1 _ _ e)
  refine wpAny_bind (wpAny_pyIter_list hl1 ?_)
  have k2 : ∀ b o, h1.get? b = some o → (h1.push { cls := .type "list_iterator", data := .fields #[.ref l, .int 0 0] }).get? b = some o := fun b o e => Heap.get?_push_of_some _ e
  have hlt : l < s.heap.objs.size := Heap.lt_size hl
  have key := upd_loopT (prog := prog) (w := w) (A := A.in1) (R := wants (fun r s₂ => r = .none ∧ Q (.ref s.heap.objs.size) s₂) E) (S := s.heap.objs.size) (I := h1.objs.size) (l := l) (items := items) (res := Value.none) (show A.in1.units + 1 < cLine from hr) hh
    (Nat.ne_of_lt (Nat.lt_trans hlt hS1)) (Nat.ne_of_lt hS1) (Nat.ne_of_gt hlt) prs 0 [] 0 0
    { s with heap := h1.push { cls := .type "list_iterator", data := .fields #[.ref l, .int 0 0] }, toks := tk1 } (by rw [hsz, Nat.zero_add]) (by rw [List.length_nil, Nat.zero_add]; exact hln)
    (fun j q e => by
      obtain ⟨b, e1, e2, e3⟩ := ht j q e
      have hb : b < s.heap.objs.size := e2.lt
      have hq : q.2.1 < s.heap.objs.size := by
        obtain ⟨o, _, _, h1, _⟩ := e3
        exact Heap.lt_size h1
      exact ⟨b, by rw [Nat.zero_add]; exact e1, Nat.ne_of_lt hb, Nat.ne_of_lt (Nat.lt_trans hb hS1), Nat.ne_of_lt hq, Nat.ne_of_lt (Nat.lt_trans hq hS1), e2.keeps fun c o z => k2 _ _ (hk1 _ _ (k0 _ _ z)), tkey_at e3 fun o z => k2 _ _ (hk1 _ _ (k0 _ _ z))⟩)
    (fun _ z => nomatch z) ⟨_, Heap.get?_push_size _ rfl, rfl, rfl⟩ (hl1.at fun o e => k2 _ _ e) (dH_at (dH_at hnew (fun o e => hk1 _ _ e) fun _ z => nomatch z) (fun o e => k2 _ _ e) fun _ z => nomatch z)
    (fun h' tk hd' k => ⟨rfl, h h' tk hd' fun b o e => k b o (Nat.ne_of_lt (Heap.lt_size e)) (Nat.ne_of_lt (Nat.lt_trans (Heap.lt_size e) hS1)) (k2 _ _ (hk1 _ _ (k0 _ _ e)))⟩)
  first
    | exact wpAny_pure ⟨plainId_quiet ud_plain _, key⟩
    | exact wpAny_bind (wpAny_pure (wpAny_pure ⟨plainId_quiet ud_plain _, key⟩))
end
section
variable {X : Cx}
theorem KT.merge {H : Hp} : ∀ {more : List (List Key × V)} {xm : List (List Key × Addr × Value)} {acc : List (List Key × V)} {xa : List (List Key × Addr × Value)}, KT H more xm → KT H acc xa → KT H (mergeT acc more) (mergedH xa xm)
  | _, _, _, _, .nil, r => r
  | p :: more, q :: xm, acc, xa, .cons h t, r => by
    obtain ⟨k, v⟩ := p
    obtain ⟨k', a, u⟩ := q
    obtain ⟨e, h1, h2⟩ := h
    cases (show k = k' from e)
    show KT H (mergeT (putK acc k v) more) (mergedH (storedH xa k a u) xm)
    exact KT.merge t (r.put k h1 h2)
theorem mergeT_le : ∀ (more acc : List (List Key × V)), (mergeT acc more).length ≤ acc.length + more.length
  | [], acc => Nat.le_refl _
  | p :: more, acc => by
    have h := mergeT_le more (putK acc p.1 p.2)
    have h2 := length_putK acc p.1 p.2
    show (mergeT (putK acc p.1 p.2) more).length ≤ _
    rw [List.length_cons]
    omega
theorem pairs_ofT {pins : List (Addr × Obj)} {σ : St} {H : Hp} {s : Shared} (I : Inv X pins σ H s) : ∀ {ps : List Addr} {kvs : List (List Key × V)}, Paired (fun (p : Addr) (kv : List Key × V) => ∃ b, H p = some (.tup [V.ref b, kv.2]) ∧ H b = some (.tup (kv.1.map kV))) ps kvs →
    ∃ prs : List (List Key × Addr × Value), KT H kvs prs ∧ prs.length = ps.length ∧ ∀ (j : Nat) (q : List Key × Addr × Value), prs[j]? = some q → ∃ b : Addr, ps[j]? = some b ∧ IsTup s.heap b #[.ref q.2.1, q.2.2] ∧ (tupleKind (mixKind X.prog X.w)).is s.heap q.1 q.2.1
  | _, _, .nil => ⟨[], .nil, rfl, fun j q e => by simp at e⟩
  | _, _, .cons (a := p) (b := kv) h t => by
    obtain ⟨prs, r, hl, hp⟩ := pairs_ofT I t
    obtain ⟨b, h1, h2⟩ := h
    obtain ⟨its, rv, ht, _⟩ := I.tuple (SqT.of (K := X.K) h1)
    obtain ⟨u, y, ei, ru, ry⟩ := vals2 rv
    subst ei
    cases (show u = Value.ref b from ru)
    refine ⟨(kv.1, b, y) :: prs, .cons ⟨rfl, h2, ry⟩ r, by rw [List.length_cons, List.length_cons, hl], fun j q e => ?_⟩
    cases j with
    | zero =>
      have e' : (kv.1, b, y) = q := Option.some.inj e
      subst e'
      exact ⟨p, rfl, ht, key_of I.hok h2⟩
    | succ j =>
      obtain ⟨b', e1, e2, e3⟩ := hp j q (by simpa using e)
      exact ⟨b', by simpa using e1, e2, e3⟩
/-- dict(xs) of a list of pairs (tuple, value) -/
theorem call_dictPT (hu : X.A.units + 2 < cLine) (hcalm : X.calm = true) : CallR X (.type "dict") (fun xs H Q => ∃ (a : Addr) (ps : List Addr) (kvs : List (List Key × V)), xs = [.ref a] ∧ SqL X.K H a (ps.map V.ref) ∧ Paired (fun (p : Addr) (kv : List Key × V) => ∃ b, H p = some (.tup [V.ref b, kv.2]) ∧ H b = some (.tup (kv.1.map kV))) ps kvs ∧
    ∀ p, H p = none → Q (.ref p) (upd H p (.dT (mergeT [] kvs)))) := by
  intro pins s σ H xs us Q I r q
  obtain ⟨a, ps, kvs, ex, hq, hp, q⟩ := q
  subst ex
  obtain ⟨u, eu, rx⟩ := vals1 r
  subst eu
  cases rx
  obtain ⟨its, rv, pl, hz⟩ := I.list hq
  have ei := refs_at rv
  subst ei
  rw [List.length_map] at hz
  obtain ⟨prs, rel, hl, hpr⟩ := pairs_ofT I hp
  obtain ⟨o, n, ho, hc, hd, hdat⟩ := pl
  refine call_dict_pairsT (prs := prs) hu (I.ok.hd hcalm) ho hc hd hdat (by simp [hl]) (by rw [hl]; exact hz) (fun j q' e => ?_) fun h' tk hd' k => ?_
  · obtain ⟨b, e1, e2, e3⟩ := hpr j q' e
    exact ⟨b, by simp [e1], e2, e3⟩
  · have hm : (s.heap.objs.size == sysModules) = false := beq_eq_false_iff_ne.mpr (Nat.ne_of_gt I.big)
    have hlen : (mergeT [] kvs).length ≤ sizeLine := by
      refine Nat.le_trans (mergeT_le kvs []) ?_
      rw [List.length_nil, Nat.zero_add, Paired.length rel, hl]
      exact hz
    obtain ⟨oo, es, ep, h1, h2, h3, h4, _, h6⟩ := hd'
    have kt : KT H (mergeT [] kvs) (mergedH [] prs) := KT.merge rel .nil
    have hfr := I.hok.fresh (Nat.le_refl s.heap.objs.size)
    refine ⟨.ref s.heap.objs.size, upd H s.heap.objs.size (.dT (mergeT [] kvs)), I.laid (t' := tk) k (Nat.le_refl _) (show ObjOk X.prog X.w _ _ _ (.dT (mergeT [] kvs)) from ⟨hlen, hm, mergedH [] prs, kt.keeps fun c ys ec => ?_, oo, es, ep, h1, h2, h3, h4, h6⟩), rfl, q _ hfr⟩
    rw [upd_ne (ne_of_none ec hfr)]
    exact ec
end
end L2

namespace RK
open PySem L2
theorem merge_P {g : Str × Str → Int} : ∀ {m l : List (Str × Str)}, (l ++ m).Nodup → mergeT (kvP l g) (kvP m g) = kvP (l ++ m) g
  | [], l, _ => by rw [List.append_nil]; rfl
  | p :: m, l, h => by
    have hp : p ∉ l := fun z => (List.nodup_append.mp h).2.2 p z p List.mem_cons_self rfl
    show mergeT (putK (kvP l g) (kP p) (.int (g p))) (kvP m g) = _
    rw [put_P_new hp, merge_P (by rw [List.append_assoc]; exact h), List.append_assoc]
    rfl
def spWTable : Sp := fun vs H Q _ => ∃ (n d : Addr) (zs : List Str) (kvs : List (Key × V)), vs = [.ref n, .ref d] ∧ H n = some (.lst (zs.map V.str)) ∧ H d = some (.dK kvs) ∧ (∀ z ∈ zs, valV kvs (Sum.inr z : Key) = some (.int (placeOf kvs z))) ∧ zs.Nodup ∧ zs.length ≤ 1000 ∧ ∀ e H', H e = none → H' e = some (.dT (kvP (pairsOf zs) fun p => netP zs kvs p.1 p.2)) → Same H H' → Q (.ref e) H'
section
variable {P : Program} {w : World} {K : PySem.W.Frag} {mg : Str → Option Value} {base : Heap}
end
end RK

namespace RK
open PySem L2
/-! ### is_times, need_most -/
def timesB : V → Bool
  | .int i => decide (1 ≤ i)
  | _ => false
def spTimes (K : PySem.W.Frag) : Sp := fun vs H Q _ => ∃ v k, vs = [v] ∧ Th K H v k ∧ ∀ H', Same H H' → Q (.bl (timesB v)) H'
def spNeedMost (K : PySem.W.Frag) (CT : Addr) : Sp := fun vs H Q E => ∃ (v : V) (k : Kd), vs = [v] ∧ Th K H v k ∧
  (timesB v = false → ∀ d H', Same H H' → H' d = some (.xd [("most", v)]) → E (.ref CT) (some d) H') ∧ (timesB v = true → ∀ H', Same H H' → Q .non H')
section
variable {P : Program} {w : World} {K : PySem.W.Frag} {mg : Str → Option Value} {base : Heap} {CT fT : Addr}
theorem scIsTimes : FnScope ["thing"] ["thing"] (defScope sIsTimes) := ⟨rfl, rfl, rfl, by decide +kernel, rfl, by decide +kernel, by decide +kernel⟩
theorem ok_isTimes {f fI : Addr} {fd fdI : FuncData} (F : Fun K "is_times" "is_times" sIsTimes f fd)
    (GI : FnOk P w K mg base CX0 1 fI fdI ["thing"] (spIsInt K)) (bI : Binds K fdI ["thing"] []) (gI : mg "is_integer" = some (.ref fI)) (kI : PySem.W.keepIn K (.ref fI) = true) :
    FnOk P w K mg base CX0 2 f fd ["thing"] (spTimes K) := by
  refine F.ok scIsTimes (fun vs H Q E h => ?_) (fun cdv A outer s H vs Q E hr h => ?_)
  · obtain ⟨v, k, rfl, _⟩ := h
    rfl
  · obtain ⟨v, k, rfl, hv, q⟩ := h
    refine ⟨_, pss_one (ps_ret (pe_and (pe_call GI hr (by rfl) gI kI bI .nil pass0 (pa_cons (pv 0) pa_nil)) (pe_one (pe_cmpR op_ge (pv 0) pe_int (nomark _))))), ?_⟩
    refine ⟨_, rfl, v, k, rfl, hv, fun H1 s1 => ⟨_, rfl, ?_⟩⟩
    cases hv with
    | int i => exact iteT ⟨_, rfl, _, _, rfl, rfl, q H1 s1⟩
    | _ => exact iteF (q H1 s1)
theorem scNeedMost : FnScope ["most"] ["most"] (defScope sNeedMost) := ⟨rfl, rfl, rfl, by decide +kernel, rfl, by decide +kernel, by decide +kernel⟩
theorem ok_needMost {f fI : Addr} {fd fdI : FuncData} (F : Fun K "need_most" "need_most" sNeedMost f fd) (ET : ErrAt P K mg "BadMost" "most" CT fT)
    (GI : FnOk P w K mg base CX0 2 fI fdI ["thing"] (spTimes K)) (bI : Binds K fdI ["thing"] []) (gI : mg "is_times" = some (.ref fI)) (kI : PySem.W.keepIn K (.ref fI) = true) :
    FnOk P w K mg base (L2.CX P w) 3 f fd ["most"] (spNeedMost K CT) := by
  refine F.okX scNeedMost (fun vs H Q E h => ?_) (fun cdv A outer s H vs Q E hr h => ?_)
  · obtain ⟨v, k, rfl, _⟩ := h
    rfl
  · obtain ⟨v, k, rfl, ht, kbad, kgood⟩ := h
    refine ⟨_, pss_one (ps_if (pt_not (pt_val (pe_call GI hr (by rfl) gI kI bI .nil pass0 (pa_cons (pv 0) pa_nil)))) (pss_one (ps_raiseX rfl ET.x ET.g hr (takes_of rfl rfl rfl rfl) (by exact (pa_cons (pv 0) pa_nil)))) pss_nil), ?_⟩
    refine ⟨_, rfl, v, k, rfl, ht, fun H1 s1 => ⟨timesB v, rfl, ?_⟩⟩
    cases hk : timesB v with
    | false => exact iteT ⟨_, rfl, _, rfl, fun d hd => kbad hk d _ (s1.trans (same_upd hd)) upd_same⟩
    | true => exact iteF (kgood hk H1 s1)
end
end RK

namespace RK
open PySem L2
/-! ### any names -/
def spAnyNames : Sp := fun vs H Q _ => ∃ (a : Addr) (k m : Nat), vs = [.ref a, .int (k : Nat)] ∧ 2 ≤ k ∧ k ≤ 20 ∧ SpAt H a m ∧ m < 1000000000 ∧
  ∀ p (zs : List Str) H', zs.Nodup → (∀ z ∈ zs, z ∈ pool) → 2 ≤ zs.length → zs.length ≤ k → H p = none → H' p = some (.lst (zs.map V.str)) → SpAt H' a (m + 21) → But a H H' → Q (.ref p) H'
section
variable {P : Program} {w : World} {K : PySem.W.Frag} {mg : Str → Option Value} {base : Heap}
theorem scAny : FnScope ["draws", "most"] ["draws", "most"] (defScope sNames) := ⟨rfl, rfl, rfl, by decide +kernel, rfl, by decide +kernel, by decide +kernel⟩
theorem ok_anyNames {f fM fD : Addr} {fd fdM fdD : FuncData} (F : Fun K "_law_any_names" "_law_any_names" sNames f fd)
    (GM : FnOk P w K mg base CX0 3 fM fdM ["draws", "many"] spNames) (bM : Binds K fdM ["draws", "many"] []) (gM : mg "_law_names" = some (.ref fM)) (kM : PySem.W.keepIn K (.ref fM) = true)
    (GD : FnOk P w K mg base CX0 1 fD fdD ["draws", "many"] spDraw) (bD : Binds K fdD ["draws", "many"] []) (gD : mg "_law_draw" = some (.ref fD)) (kD : PySem.W.keepIn K (.ref fD) = true) :
    FnOk P w K mg base CX0 4 f fd ["draws", "most"] spAnyNames := by
  refine F.ok scAny (fun vs H Q E h => ?_) (fun cdv A outer s H vs Q E hr h => ?_)
  · obtain ⟨a, k, m, rfl, _⟩ := h
    rfl
  · obtain ⟨a, n, m, rfl, h2, h20, hsp, hm, k⟩ := h
    have hr1 : Room 1 _ := hr.mono (by decide)
    refine ⟨_, pss_one (ps_ret (pe_call GM hr (by rfl) gM kM bM .nil pass0 (pa_cons (pv 0) (pa_cons (pe_op op_add pe_int (pe_call GD hr1 (by rfl) gD kD bD .nil pass0 (pa_cons (pv 0) (pa_cons (pe_op op_sub (pv 1) pe_int) pa_nil)))) pa_nil)))), ?_⟩
    obtain ⟨osp, hosp, _⟩ := id hsp
    refine ⟨_, rfl, _, rfl, _, rfl, _, _, rfl, rfl, a, (n : Int) - 1, m, rfl, by omega, by omega, hsp, by omega, fun r o hr0 hr2 ho => ?_⟩
    obtain ⟨t, ht⟩ : ∃ t : Nat, 2 + r = (t : Int) := ⟨(2 + r).toNat, by omega⟩
    have s0 : But a H (upd H a o) := fun b u hb hu => by rw [upd_ne hb]; exact hu
    refine ⟨_, _, rfl, rfl, a, t, m + 1, by rw [← ht]; rfl, by omega, ⟨o, upd_same, ho⟩, by omega, fun p zs H' h1 h3 h4 hp hp' hsp' hb => ?_⟩
    have hpa : p ≠ a := fun e => by rw [e, upd_same] at hp; cases hp
    exact k p zs H' h1 h3 (by omega) (by omega) (by rw [upd_ne hpa] at hp; exact hp) hp' (by rw [show m + 21 = m + 1 + 20 by omega]; exact hsp') (s0.trans hb)
end
end RK

namespace RK
open PySem L2
/-! ### a path made of loose names -/
def spQMade (C : Addr) : Sp := fun vs H Q _ => ∃ (a n : Addr) (zs : List Str) (m : Nat), vs = [.ref a, .ref n] ∧ a ≠ n ∧ SpAt H a m ∧ m < 2000000000 ∧ H n = some (.lst (zs.map V.str)) ∧ zs.Nodup ∧ Nm zs ∧ (∀ z ∈ zs, z.length ≤ 1000) ∧ 2 ≤ zs.length ∧ zs.length ≤ 1000 ∧
  ∀ p t H', PathAt C H' p t zs → p ≠ a → t ≠ a → SpAt H' a (m + 1) → But a H H' → Q (.ref p) H'
section
variable {P : Program} {w : World} {K : PySem.W.Frag} {mg : Str → Option Value} {base : Heap} {C CB fB : Addr}
theorem scQMade : FnScope ["draws", "names"] ["draws", "names"] (defScope sWMade) := ⟨rfl, rfl, rfl, by decide +kernel, rfl, by decide +kernel, by decide +kernel⟩
theorem ok_wmade {f fI fL : Addr} {fd fdI fdL : FuncData} (F : Fun K "_law_made" "_law_made" sWMade f fd) (B : B0 K mg) (T : PT0 P K mg C CB fB)
    (GI : FnOk P w K mg base (L2.CX P w) 2 fI fdI ["self", "walkers"] (spInit K C CB)) (bI : Binds K fdI ["self", "walkers"] []) (M : Mk K C fI)
    (GL : FnOk P w K mg base CX0 2 fL fdL ["draws", "thing"] (spLoose1 K)) (bL : Binds K fdL ["draws", "thing"] []) (gL : mg "_law_loose" = some (.ref fL)) (kL : PySem.W.keepIn K (.ref fL) = true) :
    FnOk P w K mg base CX0 4 f fd ["draws", "names"] (spQMade C) := by
  refine F.ok scQMade (fun vs H Q E h => ?_) (fun cdv A outer s H vs Q E hr h => ?_)
  · obtain ⟨a, n, zs, m, rfl, _⟩ := h
    rfl
  · obtain ⟨a, n, zs, m, rfl, han, hsp, hm, hn, hnd, hnm, hzl, h2, hl, q⟩ := h
    have hr2 : Room 2 _ := hr.mono (by decide)
    have hr3 : Room 3 _ := hr.mono (by decide)
    refine ⟨_, pss_one (ps_ret (pe_make M GI hr3 (by rfl) T.mgC bI .nil passL (pa_cons (pe_call GL hr2 (by rfl) gL kL bL .nil pass0 (pa_cons (pv 0) (pa_cons (pv 1) pa_nil))) pa_nil))), ?_⟩
    refine ⟨_, rfl, _, rfl, a, n, zs.map V.str, m, rfl, han, hsp, by omega, hn, by rw [List.length_map]; exact hl, fun x hx => ?_, fun p k H2 hseq hpa sp2 b2 => ?_⟩
    · obtain ⟨z, hz, rfl⟩ := List.mem_map.mp hx
      exact ⟨_, .str (hzl z hz), rfl⟩
    · refine fun x dx nx ndx nex => init_good nx ndx hseq hnd hnm hzl h2 hl fun t H3 hpt s3 => ⟨rfl, ?_⟩
      have sp3 := sp2.same s3
      obtain ⟨o3, ho3, xx, yy, cc, rfl, _⟩ := id sp3
      refine q x t H3 hpt (fun z => ?_) (fun z => ?_) sp3 (b2.trans (Same.but s3))
      · obtain ⟨dy, e⟩ := hpt.ob
        rw [z, ho3] at e; cases e
      · have e := hpt.tu
        rw [z, ho3] at e; cases e
end
end RK

namespace RK
open PySem L2
/-! ### numbers -/
def numB : V → Bool
  | .int i => decide (i ≥ 0)
  | _ => false
theorem Th.num_b {K : PySem.W.Frag} {H : Hp} {v : V} {k : Kd} (h : Th K H v k) (e : k.isInt = false) : numB v = false := by
  cases h <;> first | rfl | cases e
theorem Th.int_of {K : PySem.W.Frag} {H : Hp} {v : V} {k : Kd} (h : Th K H v k) (e : k.isInt = true) : ∃ i, v = .int i := by
  cases h <;> first | exact ⟨_, rfl⟩ | cases e
def spIsNumber (K : PySem.W.Frag) : Sp := fun vs H Q _ => ∃ v k, vs = [v] ∧ Th K H v k ∧ ∀ H', Same H H' → Q (.bl (numB v)) H'
/-- a dict from just all the names to numbers -/
def dictNB (zs : List Str) (kvs : List (Key × V)) : Bool := decide (kvs.length = zs.length) && zs.all fun z => match valV kvs (Sum.inr z : Key) with
  | some v => numB v
  | none => false
def isRightN (kvs : List (Key × V)) (z : Str) : Bool := match valV kvs (Sum.inr z : Key) with
  | some v => numB v
  | none => false
def spDictNu (K : PySem.W.Frag) (fI : Addr) : Sp := fun vs H Q _ => ∃ (n : Addr) (zs : List Str) (v : V) (k : Kd), vs = [.ref n, v, .ref fI] ∧ H n = some (.lst (zs.map V.str)) ∧ zs.length ≤ 1000 ∧ Th K H v k ∧
  (k.isDict = false → ∀ H', Same H H' → Q (.bl false) H') ∧
  (k.isDict = true → ∃ d kvs, v = .ref d ∧ H d = some (.dK kvs) ∧ (∀ kv ∈ kvs, ∃ kx, Th K H kv.2 kx) ∧ ∀ H', Same H H' → Q (.bl (dictNB zs kvs)) H')
def spNeedNu (K : PySem.W.Frag) (CN : Addr) : Sp := fun vs H Q E => ∃ (n : Addr) (zs : List Str) (v : V) (k : Kd), vs = [.ref n, v] ∧ H n = some (.lst (zs.map V.str)) ∧ zs.length ≤ 1000 ∧ Th K H v k ∧
  (k.isDict = false → ∀ d H', Same H H' → H' d = some (.xd [("numbers", v)]) → E (.ref CN) (some d) H') ∧
  (k.isDict = true → ∃ dd kvs, v = .ref dd ∧ H dd = some (.dK kvs) ∧ (∀ kv ∈ kvs, ∃ kx, Th K H kv.2 kx) ∧
    (dictNB zs kvs = false → ∀ d H', Same H H' → H' d = some (.xd [("numbers", v)]) → E (.ref CN) (some d) H') ∧ (dictNB zs kvs = true → ∀ H', Same H H' → Q .non H'))
section
variable {P : Program} {w : World} {K : PySem.W.Frag} {mg : Str → Option Value} {base : Heap} {CN fN : Addr}
theorem scIsNumber : FnScope ["thing"] ["thing"] (defScope sIsNumber) := ⟨rfl, rfl, rfl, by decide +kernel, rfl, by decide +kernel, by decide +kernel⟩
theorem ok_isNumber {f fI : Addr} {fd fdI : FuncData} (F : Fun K "is_number" "is_number" sIsNumber f fd)
    (GI : FnOk P w K mg base CX0 1 fI fdI ["thing"] (spIsInt K)) (bI : Binds K fdI ["thing"] []) (gI : mg "is_integer" = some (.ref fI)) (kI : PySem.W.keepIn K (.ref fI) = true) :
    FnOk P w K mg base CX0 2 f fd ["thing"] (spIsNumber K) := by
  refine F.ok scIsNumber (fun vs H Q E h => ?_) (fun cdv A outer s H vs Q E hr h => ?_)
  · obtain ⟨v, k, rfl, _⟩ := h
    rfl
  · obtain ⟨v, k, rfl, ht, q⟩ := h
    refine ⟨_, pss_one (ps_ret (pe_and (pe_call GI hr (by rfl) gI kI bI .nil pass0 (pa_cons (pv 0) pa_nil)) (pe_one (pe_cmpR op_ge (pv 0) pe_int (nomark _))))), ?_⟩
    refine ⟨_, rfl, v, k, rfl, ht, fun H1 s1 => ⟨k.isInt, rfl, ?_⟩⟩
    have q' := q H1 s1
    cases hk : k.isInt with
    | false =>
      rw [ht.num_b hk] at q'
      exact iteF q'
    | true =>
      obtain ⟨i, rfl⟩ := ht.int_of hk
      exact iteT ⟨_, rfl, _, _, rfl, rfl, q'⟩
end
end RK

/-! list(e.values()) of a dict with plain keys -/
namespace L2
open PySem PySem.Spec PyProof.Rows
def tListVals (te : TE) : TE := fun σ H Q => te σ H fun x H1 => ∃ (d : Addr) (kvs : List (Key × V)), x = .ref d ∧ H1 d = some (.dK kvs) ∧ ∀ L, H1 L = none → Q (.ref L) (upd H1 L (.lst (kvs.map (·.2))))
theorem vals_of_kv : ∀ {kvs : List (Key × V)} {xs : List (Key × Value)}, KV kvs xs → Vals (kvs.map (·.2)) (xs.map (·.2))
  | _, _, .nil => .nil
  | _, _, .cons h t => .cons h.2 (vals_of_kv t)
section
variable {X : Cx} {e : Expr} {te : TE} {p apos cpos pos : Pos}
theorem pe_listVals (hc : X.calm = true) (he : PE X e te) (hg : Gl X "list") (hm : X.mg "list" = none) (hv : bootBuiltins "list" = some (.type "list")) (hbase : attributeBase e "values" X.env (eval e X.env) = eval e X.env := by rfl) (hline : (apos.endLine == cpos.line) = true := by rfl)
    (hs : starEach [.Call (.Attribute e "values" apos) [] [] cpos] X.env = (false, eval (.Call (.Attribute e "values" apos) [] [] cpos) X.env) :: starEach [] X.env := by rfl) :
    PE X (.Call (.Name "list" p) [.Call (.Attribute e "values" apos) [] [] cpos] [] pos) (tListVals te) := by
  refine ⟨fun pins s σ H Q I hq => ?_⟩
  refine wpAny_Call_Name_kw (ld_blt I hg hm hv ?_)
  refine PyProof.Rows.callWith_type1 ?_ hs rfl
  rw [hs]
  show wpAny _ _ (spliced ((false, eval (.Call (.Attribute e "values" apos) [] [] cpos) X.env) :: backTo pos (starEach [] X.env))) _ _ s
  refine Calls.spliced_cons ?_
  refine wpAny_Call_method (T := "dict") (id := "dict.values") hbase rfl hline F.plainAttrs_dict F.slot_dict_values F.type_dict_values (thn (he.run pins s σ H _ I hq) fun u s1 ⟨x, H1, I1, rx, d, kvs, ex, hd, q⟩ => ?_)
  subst ex
  obtain rfl : u = Value.ref d := rx
  obtain ⟨small, low, vs, rel, dof⟩ := dk_of I1.hok hd
  obtain ⟨ep, dat⟩ := dof.dictAt
  have I2 : Inv X pins σ H1 { s1 with heap := s1.heap.push { cls := .type "dict_values", data := .fields #[.ref d] } } := I1.kept (t' := s1.toks) fun b ob q => Heap.get?_push_of_some _ q
  refine ⟨dof.typeIs, dof.mapOf.noDict, ?_⟩
  show wpAny _ _ (callWith cpos (.builtin "dict.values") [.ref d] [] []) _ X.xe s1
  refine method_meetsIn F.slot_dict_values F.entry_dict_values rfl (PySem.evalArgs_none ⟨rfl, dof.typeIs, F.args_dict_values_1 _, _, meets_dict_values (mixKind X.prog X.w) d low, ⟨vs, dof⟩, ?_⟩)
  refine Calls.spliced_nil ?_
  have k1 : ∀ b u, s1.heap.get? b = some u → (s1.heap.push { cls := .type "dict_values", data := .fields #[.ref d] }).get? b = some u := fun b u e => Heap.get?_push_of_some _ e
  have dat1 : (s1.heap.push { cls := .type "dict_values", data := .fields #[.ref d] }).DictAt (mixKind X.prog X.w) d vs ep := dat.keep k1
  have hl : kvs.length = vs.length := KV.length rel
  refine PySem.W.kdl_call (PySem.W.kdl_values (r := s1.heap.objs.size) (d := d) (knd := mixKind X.prog X.w) (kvs := vs) (ep := ep)) (I1.ok.hd hc) ⟨⟨_, Heap.get?_push_size _ rfl, rfl, rfl⟩, dat1⟩ (by rw [← hl]; exact small) fun h' tk acc c hk hS hitems => ?_
  have hacc : acc.toList = vs.map (·.2) := by
    refine List.ext_getElem? fun j => ?_
    rw [Array.getElem?_toList, List.getElem?_map]
    cases hx : vs[j]? with
    | none =>
      have hj := List.getElem?_eq_none_iff.mp hx
      rw [Option.map_none]
      exact Array.getElem?_eq_none (by rw [hitems.1]; exact hj)
    | some x =>
      have hj := (List.getElem?_eq_some_iff.mp hx).1
      have hja : j < acc.size := by rw [hitems.1]; exact hj
      rw [Option.map_some, Array.getElem?_eq_getElem hja]
      obtain ⟨k, e⟩ := hitems.2 j _ (Array.getElem?_eq_getElem hja)
      rw [hx] at e
      rw [Option.some.inj e]
  refine ⟨.ref _, upd H1 _ (.lst (kvs.map (·.2))), I2.laid (t' := tk) hk (Nat.le_refl _) ?_, rfl, q _ (I2.hok.fresh (Nat.le_refl _))⟩
  refine ⟨by rw [List.length_map]; exact small, acc.toList, c, by rw [hacc]; exact vals_of_kv rel, ?_⟩
  rw [Array.toArray_toList]
  exact hS
end
end L2

namespace RK
open PySem L2
def Bad (fld : Str) (C : Addr) (v : V) (H : Hp) (E : XK) : Prop := ∀ d H', Same H H' → H' d = some (.xd [(fld, v)]) → E (.ref C) (some d) H'
theorem Bad.same {fld : Str} {C : Addr} {v : V} {H H1 : Hp} {E : XK} (h : Bad fld C v H E) (s : Same H H1) : Bad fld C v H1 E := fun d H' s2 e => h d H' (s.trans s2) e
def PathT (K : PySem.W.Frag) (C CP : Addr) (v : V) (H : Hp) (E : XK) (next : List Str → Prop) : Prop :=
  (∃ k, Th K H v k ∧ Bad "thing" CP v H E) ∨ ∃ p t zs, v = .ref p ∧ PathAt C H p t zs ∧ zs.Nodup ∧ Nm zs ∧ (∀ z ∈ zs, z.length ≤ 1000) ∧ 2 ≤ zs.length ∧ zs.length ≤ 400 ∧ next zs
def MostT (K : PySem.W.Frag) (CM : Addr) (x : V) (H : Hp) (E : XK) (next : Int → Prop) : Prop :=
  ∃ k, Th K H x k ∧ (timesB x = false → Bad "most" CM x H E) ∧ (timesB x = true → ∀ i, x = .int i → next i)
theorem MostT.sp {K : PySem.W.Frag} {CM : Addr} {x : V} {H H1 : Hp} {Q : VK} {E : XK} {next : Int → Prop} (h : MostT K CM x H E next) (s : Same H H1) (q : ∀ i H', x = .int i → 1 ≤ i → next i → Same H1 H' → Q .non H') : spNeedMost K CM [x] H1 Q E := by
  obtain ⟨k, ht, b, g⟩ := h
  refine ⟨x, k, rfl, ht.same s, fun e d H' s2 hd => b e d H' (s.trans s2) hd, fun e H' s2 => ?_⟩
  cases x with
  | int i => exact q i H' rfl (of_decide_eq_true e) (g e i rfl) s2
  | _ => exact absurd e Bool.false_ne_true
/-- numbers of all but one: names of the path, other ones none -/
def butB (zs : List Str) (kvs : List (Key × V)) : Bool := kvs.all fun kv => walkB zs (kV kv.1) && numB kv.2
def partB (zs : List Str) (kvs : List (Key × V)) : Bool := decide (kvs.length = zs.length - 1) && butB zs kvs
def spDictBut (K : PySem.W.Frag) (fI : Addr) : Sp := fun vs H Q _ => ∃ (n : Addr) (zs : List Str) (v : V) (k : Kd), vs = [.ref n, v, .ref fI] ∧ H n = some (.lst (zs.map V.str)) ∧ (2 ≤ zs.length ∧ zs.length ≤ 1000) ∧ Th K H v k ∧
  (k.isDict = false → ∀ H', Same H H' → Q (.bl false) H') ∧
  (k.isDict = true → ∃ d kvs, v = .ref d ∧ H d = some (.dK kvs) ∧ (∀ kv ∈ kvs, ∃ kx, Th K H kv.2 kx) ∧ (∀ kv ∈ kvs, ∃ kx, Th K H (kV kv.1) kx) ∧ (∀ kv ∈ kvs, kv.2 ≠ .ref d) ∧ ∀ H', Same H H' → Q (.bl (partB zs kvs)) H')
def spNeedNoted (K : PySem.W.Frag) (CN : Addr) : Sp := fun vs H Q E => ∃ (n : Addr) (zs : List Str) (v : V) (k : Kd), vs = [.ref n, v] ∧ H n = some (.lst (zs.map V.str)) ∧ zs.length ≤ 1000 ∧ Th K H v k ∧
  (k.isDict = false → Bad "noted" CN v H E) ∧
  (k.isDict = true → ∃ dd kvs, v = .ref dd ∧ H dd = some (.dK kvs) ∧ (∀ kv ∈ kvs, ∃ kx, Th K H kv.2 kx) ∧ (dictNB zs kvs = false → Bad "noted" CN v H E) ∧ (dictNB zs kvs = true → ∀ H', Same H H' → Q .non H'))
/-- the first place with too great a number -/
def faultI (L : List Int) (k : Int) : Option (Int × Nat) := L.zipIdx.find? fun p => decide (p.1 > (p.2 : Int) * k)
def FltAt (H : Hp) (o : Option (Int × Nat)) (v : V) : Prop := match o with
  | none => v = .non
  | some p => ∃ t, v = .ref t ∧ H t = some (.tup [.int (p.2 : Int), .int p.1])
def spFirstFault : Sp := fun vs H Q _ => ∃ (n d : Addr) (zs ks : List Str) (g : Str → Int) (k : Int), vs = [.ref n, .ref d, .int k] ∧ H n = some (.lst (zs.map V.str)) ∧ H d = some (.dK (kvOf ks g)) ∧ ks.Perm zs ∧ zs.length ≤ 1000 ∧ 0 < k ∧
  ∀ L v H', L.Perm (zs.map g) → L.Pairwise (· ≤ ·) → FltAt H' (faultI L k) v → Same H H' → Q v H'
def NumsT (K : PySem.W.Frag) (CN : Addr) (zs : List Str) (u : V) (H : Hp) (E : XK) (next : Addr → List Str → (Str → Int) → Prop) : Prop :=
  ∃ ku, Th K H u ku ∧ (ku.isDict = false → Bad "noted" CN u H E) ∧ (ku.isDict = true → ∃ dd kvs, u = .ref dd ∧ H dd = some (.dK kvs) ∧ (∀ kv ∈ kvs, ∃ kx, Th K H kv.2 kx) ∧ (dictNB zs kvs = false → Bad "noted" CN u H E) ∧ (dictNB zs kvs = true → ∃ ks g, kvs = kvOf ks g ∧ ks.Perm zs ∧ next dd ks g))
def PartT (K : PySem.W.Frag) (CA : Addr) (zs : List Str) (u : V) (H : Hp) (E : XK) (next : Addr → List Str → (Str → Int) → Prop) : Prop :=
  ∃ ku, Th K H u ku ∧ (ku.isDict = false → Bad "part" CA u H E) ∧ (ku.isDict = true → ∃ dd kvs, u = .ref dd ∧ H dd = some (.dK kvs) ∧ (∀ kv ∈ kvs, ∃ kx, Th K H kv.2 kx) ∧ (∀ kv ∈ kvs, ∃ kx, Th K H (kV kv.1) kx) ∧ (∀ kv ∈ kvs, kv.2 ≠ .ref dd) ∧ (partB zs kvs = false → Bad "part" CA u H E) ∧ (partB zs kvs = true → ∃ ks g, kvs = kvOf ks g ∧ ks.length + 1 = zs.length ∧ next dd ks g))
def spNotedFault (K : PySem.W.Frag) (C CP CN CM : Addr) : Sp := fun vs H Q E => ∃ v u x, vs = [v, u, x] ∧ PathT K C CP v H E fun zs => NumsT K CN zs u H E fun _ ks g => MostT K CM x H E fun k =>
  ∀ L v H', L.Perm (zs.map g) → L.Pairwise (· ≤ ·) → FltAt H' (faultI L k) v → Same H H' → Q v H'
/-- what most_lacking tells of the numbers in rising order -/
def lackI (L : List Int) (k : Int) : Option Int := if (L.zipIdx.any fun p => decide (p.1 > ((p.2 : Int) + 1) * k)) = true then none else some (k * match L.zipIdx.find? fun p => decide (p.1 > (p.2 : Int) * k) with
  | some p => (p.2 : Int)
  | none => (L.length : Int))
def LackAt (o : Option Int) (v : V) : Prop := match o with
  | none => v = .non
  | some i => v = .int i
def spMostLack (K : PySem.W.Frag) (C CP CA CM : Addr) : Sp := fun vs H Q E => ∃ v u x, vs = [v, u, x] ∧ PathT K C CP v H E fun zs => PartT K CA zs u H E fun _ ks g => MostT K CM x H E fun k =>
  ∀ L v H', L.Perm (ks.map g) → L.Pairwise (· ≤ ·) → LackAt (lackI L k) v → Same H H' → Q v H'
theorem Th.butD {K : PySem.W.Frag} {d : Addr} {H G : Hp} {v : V} {k : Kd} (b : But d H G) (n : v ≠ .ref d) (h : Th K H v k) : Th K G v k := by
  cases h with
  | non => exact .non
  | int i => exact .int i
  | bl b => exact .bl b
  | str h => exact .str h
  | lst e => exact .lst (b _ _ (fun z => n (by rw [z])) e)
  | tup e => exact .tup (b _ _ (fun z => n (by rw [z])) e)
  | dict e => exact .dict (b _ _ (fun z => n (by rw [z])) e)
  | fn e c => exact .fn e c
theorem kV_ne {k : Key} {d : Addr} : kV k ≠ .ref d := by cases k <;> exact fun z => nomatch z
theorem NumsT.same {K : PySem.W.Frag} {CN : Addr} {zs : List Str} {u : V} {H H1 : Hp} {E : XK} {next next' : Addr → List Str → (Str → Int) → Prop} (h : NumsT K CN zs u H E next) (s : Same H H1) (hn : ∀ d ks g, next d ks g → next' d ks g) : NumsT K CN zs u H1 E next' := by
  obtain ⟨ku, ht, h1, h2⟩ := h
  refine ⟨ku, ht.same s, fun e => (h1 e).same s, fun e => ?_⟩
  obtain ⟨dd, kvs, rfl, hd, hth, b, g⟩ := h2 e
  refine ⟨dd, kvs, rfl, s _ _ hd, fun kv hkv => let ⟨kx, e⟩ := hth kv hkv; ⟨kx, e.same s⟩, fun e => (b e).same s, fun e => ?_⟩
  obtain ⟨ks, g1, rfl, pm, nx⟩ := g e
  exact ⟨ks, g1, rfl, pm, hn _ _ _ nx⟩
theorem PartT.same {K : PySem.W.Frag} {CA : Addr} {zs : List Str} {u : V} {H H1 : Hp} {E : XK} {next : Addr → List Str → (Str → Int) → Prop} (h : PartT K CA zs u H E next) (s : Same H H1) : PartT K CA zs u H1 E next := by
  obtain ⟨ku, ht, h1, h2⟩ := h
  refine ⟨ku, ht.same s, fun e => (h1 e).same s, fun e => ?_⟩
  obtain ⟨dd, kvs, rfl, hd, hth, hthk, hne, b, g⟩ := h2 e
  exact ⟨dd, kvs, rfl, s _ _ hd, fun kv hkv => let ⟨kx, e⟩ := hth kv hkv; ⟨kx, e.same s⟩, fun kv hkv => let ⟨kx, e⟩ := hthk kv hkv; ⟨kx, e.same s⟩, hne, fun e => (b e).same s, g⟩
theorem MostT.same {K : PySem.W.Frag} {CM : Addr} {x : V} {H H1 : Hp} {E : XK} {next : Int → Prop} (h : MostT K CM x H E next) (s : Same H H1) : MostT K CM x H1 E next := by
  obtain ⟨k, ht, b, g⟩ := h
  exact ⟨k, ht.same s, fun e => (b e).same s, g⟩
theorem find_none_of {L : List Int} {k : Int} (h : ∀ (i : Nat) (x : Int), L[i]? = some x → ¬ x > (i : Int) * k) : faultI L k = none := by
  unfold faultI
  rw [List.find?_eq_none]
  rintro ⟨x, i⟩ hm
  have := List.mk_mem_zipIdx_iff_getElem?.mp hm
  rw [decide_eq_true_iff]
  exact h i x this
theorem find_first {α : Type} {p : α → Bool} : ∀ {l : List α} {i : Nat} {x : α}, l[i]? = some x → p x = true → (∀ j y, j < i → l[j]? = some y → p y = false) → l.find? p = some x
  | [], _, _, h, _, _ => by simp at h
  | y :: r, 0, x, h, hp, _ => by
    cases (show some y = some x from h)
    rw [List.find?_cons, hp]
  | y :: r, i + 1, x, h, hp, hb => by
    rw [List.find?_cons, hb 0 y (by omega) rfl]
    exact find_first (l := r) (i := i) h hp fun j z hj hz => hb (j + 1) z (by omega) hz
theorem find_some_of {L : List Int} {k : Int} {i : Nat} {x : Int} (hx : L[i]? = some x) (h : x > (i : Int) * k) (hb : ∀ (j : Nat) (y : Int), j < i → L[j]? = some y → ¬ y > (j : Int) * k) : faultI L k = some (x, i) := by
  unfold faultI
  refine find_first (i := i) (by rw [List.getElem?_zipIdx, hx]; show some (x, 0 + i) = _; rw [Nat.zero_add]) (decide_eq_true h) fun j y hj hy => ?_
  rw [List.getElem?_zipIdx] at hy
  cases hz : L[j]? with
  | none => rw [hz] at hy; cases hy
  | some z =>
    rw [hz] at hy
    cases (show some (z, 0 + j) = some y from hy)
    refine decide_eq_false ?_
    show ¬ z > ((0 + j : Nat) : Int) * k
    rw [Nat.zero_add]
    exact hb j z hj hz
section
variable {K : PySem.W.Frag} {n D : Addr} {zs : List Str} {i : Nat} {vs : List Nat} {te : TE} {tt : TT} {σ : St} {H1 : Hp} {Qd : Hp → Prop} {p : Str → Bool} {f : Str → V}
theorem lcF_it (p : Str → Bool) (f : Str → V) (hn : H1 n = some (.lst (zs.map V.str))) (hD : H1 D = none) (hl : zs.length ≤ 1000)
    (hw : ∀ x, wipe ((wipe σ vs).set i (some x)) vs = wipe σ vs)
    (ht : ∀ z ∈ zs, ∀ G (Q : Bool → Hp → Prop), Same H1 G → Q (p z) G → tt ((wipe σ vs).set i (some (.str z))) G Q)
    (hv : ∀ z ∈ zs, p z = true → ∀ G (Q : VK), Same H1 G → Q (f z) G → te ((wipe σ vs).set i (some (.str z))) G Q)
    (hd : ∀ G, Same H1 G → G D = some (.lst ((zs.filter p).map f)) → Qd G) :
    ∃ W : Nat → Nat → Hp → Prop, (∃ m, W 0 m (upd H1 D (.lst []))) ∧ ∀ j m H, W j m H →
      ((Itl K n).stop j H ∧ Qd H) ∨ ((Itl K n).go j H ∧ ∃ Nx : Hp → Prop, (∀ H', Nx H' → ∃ m', m' < m ∧ W (j + 1) m' H') ∧ ∀ x H', (Itl K n).yld j H x H' → gName i x (wipe σ vs) H' fun σ2 H2 => wipe σ2 vs = wipe σ vs ∧ tt σ2 H2 fun b H3 =>
        if b = true then te σ2 H3 fun y H4 => ∃ acc, H4 D = some (.lst acc) ∧ acc.length < sizeLine ∧ Nx (upd H4 D (.lst (acc ++ [y]))) else Nx H3) := by
  refine lc_it (walk_list (K := K) (a := n) (xs := zs.map V.str)) (fun j G => Same H1 G ∧ G D = some (.lst (((zs.take j).filter p).map f))) ⟨same_upd hD, upd_same⟩ (fun j G _ q => SqL.of (q.1 _ _ hn)) ?_ ?_
  · rintro j x G1 G2 hj ⟨sm, hacc⟩ ⟨rfl, hx⟩
    obtain ⟨z, hz, hzm, rfl⟩ := name_at hx
    refine ⟨hw _, ht z hzm _ _ sm ?_⟩
    rw [take_more hz, List.filter_append]
    cases hp : p z with
    | true =>
      refine iteT (hv z hzm hp _ _ sm ?_)
      have ef : [z].filter p = [z] := by rw [List.filter_cons, if_pos hp]; rfl
      rw [ef]
      refine ⟨_, hacc, ?_, fun b o hb => ?_, by rw [upd_same, List.map_append]; rfl⟩
      · have l1 := List.length_filter_le p (zs.take j)
        rw [List.length_take] at l1
        rw [List.length_map]
        exact Nat.lt_of_le_of_lt (Nat.le_trans l1 (Nat.le_trans (Nat.min_le_right _ _) hl)) (by decide)
      · rw [upd_ne (ne_of_none hb hD)]
        exact sm _ _ hb
    | false =>
      refine iteF ?_
      have ef : [z].filter p = [] := by rw [List.filter_cons, if_neg (by rw [hp]; exact Bool.false_ne_true)]; rfl
      rw [ef, List.append_nil]
      exact ⟨sm, hacc⟩
  · rintro G ⟨sm, hacc⟩
    rw [List.length_map, List.take_length] at hacc
    exact hd G sm hacc
end
section
variable {K : PySem.W.Frag} {n D : Addr} {L : List Int} {a b : Nat} {vs : List Nat} {te : TE} {tt : TT} {σ : St} {H1 : Hp} {Qd : Hp → Prop}
/-- a comprehension over the enumerated numbers of a list -/
theorem lcE_it (p : Nat → Int → Bool) (f : Nat → Int → V) (hn : H1 n = some (.lst (L.map V.int))) (hD : H1 D = none) (hl : L.length ≤ 1000)
    (hg : ∀ T x y G (Q : St → Hp → Prop), G T = some (.tup [x, y]) → Q (((wipe σ vs).set a (some x)).set b (some y)) G → gTup K 2 (gCons (gName a) (gCons (gName b) gNil)) (.ref T) (wipe σ vs) G Q)
    (hw : ∀ x y, wipe (((wipe σ vs).set a (some x)).set b (some y)) vs = wipe σ vs)
    (ht : ∀ i x, L[i]? = some x → ∀ G (Q : Bool → Hp → Prop), Same H1 G → Q (p i x) G → tt (((wipe σ vs).set a (some (.int (i : Nat)))).set b (some (.int x))) G Q)
    (hv : ∀ i x, L[i]? = some x → p i x = true → ∀ G (Q : VK), Same H1 G → Q (f i x) G → te (((wipe σ vs).set a (some (.int (i : Nat)))).set b (some (.int x))) G Q)
    (hd : ∀ G, Same H1 G → G D = some (.lst ((L.zipIdx.filter fun q => p q.2 q.1).map fun q => f q.2 q.1)) → Qd G) :
    ∃ W : Nat → Nat → Hp → Prop, (∃ m, W 0 m (upd H1 D (.lst []))) ∧ ∀ j m H, W j m H →
      ((Ite K n).stop j H ∧ Qd H) ∨ ((Ite K n).go j H ∧ ∃ Nx : Hp → Prop, (∀ H', Nx H' → ∃ m', m' < m ∧ W (j + 1) m' H') ∧ ∀ x H', (Ite K n).yld j H x H' → gTup K 2 (gCons (gName a) (gCons (gName b) gNil)) x (wipe σ vs) H' fun σ2 H2 => wipe σ2 vs = wipe σ vs ∧ tt σ2 H2 fun b H3 =>
        if b = true then te σ2 H3 fun y H4 => ∃ acc, H4 D = some (.lst acc) ∧ acc.length < sizeLine ∧ Nx (upd H4 D (.lst (acc ++ [y]))) else Nx H3) := by
  refine lc_it (walk_enum (K := K) (a := n) (xs := L.map V.int)) (fun j G => Same H1 G ∧ G D = some (.lst (((L.zipIdx.take j).filter fun q => p q.2 q.1).map fun q => f q.2 q.1))) ⟨same_upd hD, upd_same⟩ (fun j G _ q => SqL.of (q.1 _ _ hn)) ?_ ?_
  · rintro j x G1 G2 hj ⟨sm, hacc⟩ ⟨T, v1, v2, rfl, q1, rfl, q3, q4⟩
    have hjL : j < L.length := by rw [List.length_map] at hj; exact hj
    replace q4 : (L.map V.int)[j]? = some v2 := q4
    rw [List.getElem?_map, List.getElem?_eq_getElem hjL] at q4
    cases q4
    cases q3
    have hx : L[j]? = some L[j] := List.getElem?_eq_getElem hjL
    generalize L[j] = x at hx ⊢
    have sT := same_upd (o := .tup [V.int (j : Nat), V.int x]) q1
    have eT : (upd G1 T (.tup [V.int (j : Nat), V.int x])) T = some (.tup [V.int (j : Nat), V.int x]) := upd_same
    generalize upd G1 T (.tup [V.int (j : Nat), V.int x]) = G3 at sT eT ⊢
    refine hg T _ _ _ _ eT ⟨hw _ _, ht j x hx _ _ (sm.trans sT) ?_⟩
    have ez : L.zipIdx[j]? = some (x, j) := by
      rw [List.getElem?_zipIdx, hx]
      show some (x, 0 + j) = _
      rw [Nat.zero_add]
    rw [take_more ez, List.filter_append]
    have hacc3 := sT _ _ hacc
    cases hp : p j x with
    | true =>
      refine iteT (hv j x hx hp _ _ (sm.trans sT) ?_)
      have ef : [(x, j)].filter (fun q => p q.2 q.1) = [(x, j)] := by rw [List.filter_cons, if_pos hp]; rfl
      rw [ef]
      refine ⟨_, hacc3, ?_, fun c o hb => ?_, by rw [upd_same, List.map_append]; rfl⟩
      · have l1 := List.length_filter_le (fun q => p q.2 q.1) (L.zipIdx.take j)
        rw [List.length_take, List.length_zipIdx] at l1
        rw [List.length_map]
        exact Nat.lt_of_le_of_lt (Nat.le_trans l1 (Nat.le_trans (Nat.min_le_right _ _) hl)) (by decide)
      · rw [upd_ne (ne_of_none hb hD)]
        exact sT _ _ (sm _ _ hb)
    | false =>
      refine iteF ?_
      have ef : [(x, j)].filter (fun q => p q.2 q.1) = [] := by rw [List.filter_cons, if_neg (by rw [hp]; exact Bool.false_ne_true)]; rfl
      rw [ef, List.append_nil]
      exact ⟨sm.trans sT, hacc3⟩
  · rintro G ⟨sm, hacc⟩
    rw [List.length_map, List.take_of_length_le (by rw [List.length_zipIdx]; exact Nat.le_refl _)] at hacc
    exact hd G sm hacc
end
theorem st_name {i : Nat} {v : V} {σ : St} {H : Hp} {Q : St → Hp → Prop} (h : Q (σ.set i (some v)) H) : gName i v σ H Q := h
section
variable {P : Program} {w : World} {K : PySem.W.Frag} {mg : Str → Option Value} {base : Heap} {C CP CN CM CA fN fA fI : Addr}
end
end RK

/-! math.comb; x *= y of ints -/
namespace L2
open PySem PySem.Spec PyProof.Rows
section
variable {X : Cx}
def rComb : List V → Hp → VK → Prop := fun vs H Q => ∃ a b : Int, vs = [.int a, .int b] ∧ 0 ≤ a ∧ 0 ≤ b ∧ a < 2 ^ 64 ∧ b ≤ 9000 ∧ Q (.int (PySem.W.mcComb a b)) H
theorem cr_comb : CallR X (.builtin "math.comb") rComb := by
  intro pins s σ H vs us Q I r h
  obtain ⟨a, b, rfl, ha, hb, ha2, hb2, q⟩ := h
  cases r with
  | cons r1 r2 =>
    cases r2 with
    | cons r2 r3 =>
      cases r3
      obtain ⟨t, rfl⟩ := r1
      obtain ⟨u, rfl⟩ := r2
      exact PySem.W.mc_comb ha hb ha2 (.inl hb2) fun _ => ⟨.int _, H, I.tok _, ⟨_, rfl⟩, q⟩
theorem ip_mul : PIp X .Mult (rI CMul fun i j => .int (i * j)) := by
  intro pins s σ H x y v u Q I r1 r2 h
  exact iop_mul pins s σ H x y v u Q I r1 r2 h
end
end L2

namespace RK
open PySem L2
/-! ### choose, product_of, power, need_number, count_notes -/
def chooseI (m f : Int) : Int := if m < 0 then 0 else PySem.W.mcComb m f
def spChoose : Sp := fun vs H Q _ => ∃ a b : Int, vs = [.int a, .int b] ∧ a < 2 ^ 64 ∧ 0 ≤ b ∧ b ≤ 9000 ∧ Q (.int (chooseI a b)) H
def prodI (l : List Int) : Int := l.foldl (fun p n => p * n) 1
def spProduct : Sp := fun vs H Q _ => ∃ (l : Addr) (ns : List Int), vs = [.ref l] ∧ H l = some (.lst (ns.map V.int)) ∧ (∀ n ∈ ns, -(2 ^ 64) < n ∧ n < 2 ^ 64) ∧ Q (.int (prodI ns)) H
def spPower : Sp := fun vs H Q _ => ∃ b t : Int, vs = [.int b, .int t] ∧ -(2 ^ 64) < b ∧ b < 2 ^ 64 ∧ 0 ≤ t ∧ t ≤ 1000 ∧ ∀ H', Same H H' → Q (.int (b ^ t.toNat)) H'
theorem prod_more {l : List Int} {n : Int} : prodI (l ++ [n]) = prodI l * n := by
  unfold prodI
  rw [List.foldl_append]
  rfl
theorem prod_rep {b : Int} : ∀ k : Nat, prodI (List.replicate k b) = b ^ k
  | 0 => by rw [Int.pow_zero]; rfl
  | k + 1 => by rw [List.replicate_succ', prod_more, prod_rep k, Int.pow_succ]
def spNeedNum (K : PySem.W.Frag) (CN : Addr) : Sp := fun vs H Q E => ∃ (v : V) (k : Kd), vs = [v] ∧ Th K H v k ∧
  (numB v = false → ∀ d H', Same H H' → H' d = some (.xd [("number", v)]) → E (.ref CN) (some d) H') ∧ (numB v = true → ∀ H', Same H H' → Q .non H')
def NumT (K : PySem.W.Frag) (CN : Addr) (x : V) (H : Hp) (E : XK) (next : Int → Prop) : Prop :=
  ∃ k, Th K H x k ∧ (numB x = false → Bad "number" CN x H E) ∧ (numB x = true → ∀ i, x = .int i → next i)
theorem NumT.sp {K : PySem.W.Frag} {CN : Addr} {x : V} {H H1 : Hp} {Q : VK} {E : XK} {next : Int → Prop} (h : NumT K CN x H E next) (s : Same H H1) (q : ∀ i H', x = .int i → 0 ≤ i → next i → Same H1 H' → Q .non H') : spNeedNum K CN [x] H1 Q E := by
  obtain ⟨k, ht, b, g⟩ := h
  refine ⟨x, k, rfl, ht.same s, fun e d H' s2 hd => b e d H' (s.trans s2) hd, fun e H' s2 => ?_⟩
  cases x with
  | int i => exact q i H' rfl (of_decide_eq_true e) (g e i rfl) s2
  | _ => exact absurd e Bool.false_ne_true
def spCountNotes (K : PySem.W.Frag) (C CP CM : Addr) : Sp := fun vs H Q E => ∃ v x, vs = [v, x] ∧ PathT K C CP v H E fun zs => MostT K CM x H E fun k =>
  zs.length ≤ 30 ∧ k < 2 ^ 50 ∧ ∀ H', Same H H' → Q (.int ((k * (zs.length : Int) + 1) ^ (zs.length - 1))) H'
section
variable {P : Program} {w : World} {K : PySem.W.Frag} {mg : Str → Option Value} {base : Heap} {C CP CM CN fN : Addr}
theorem scChoose : FnScope ["many", "few"] ["many", "few"] (defScope sChoose) := ⟨rfl, rfl, rfl, by decide +kernel, rfl, by decide +kernel, by decide +kernel⟩
theorem ok_choose {f  : Addr} {fd  : FuncData} (F : Fun K "choose" "choose" sChoose f fd) (gcomb : mg "comb" = some (.builtin "math.comb")) :
    FnOk P w K mg base CX0 1 f fd ["many", "few"] spChoose := by
  refine F.ok scChoose (fun vs H Q E h => ?_) (fun cdv A outer s H vs Q E hr h => ?_)
  · obtain ⟨a, b, rfl, _⟩ := h
    rfl
  · obtain ⟨a, b, rfl, h1, h2, h3, q⟩ := h
    have hu := hu_of hr
    refine ⟨_, pss_cons (ps_if (pt_cmpR op_lt (pv 0) pe_int (nomark _)) (pss_one (ps_ret pe_int)) (pss_nil))
      (pss_one (ps_ret (pe_callBfun cr_comb (by rfl) gcomb (pa_cons (pv 0) (pa_cons (pv 1) pa_nil))))), ?_⟩
    by_cases hn : a < 0
    · rw [show chooseI a b = 0 from if_pos hn] at q
      exact ⟨_, rfl, _, _, rfl, rfl, true, congrArg V.bl (decide_eq_true hn), iteT q⟩
    · rw [show chooseI a b = PySem.W.mcComb a b from if_neg hn] at q
      exact ⟨_, rfl, _, _, rfl, rfl, false, congrArg V.bl (decide_eq_false hn), iteF ⟨_, rfl, _, rfl, a, b, rfl, by omega, h2, h1, h3, q⟩⟩
theorem scProduct : FnScope ["numbers", "product", "number"] ["numbers"] (defScope sProduct) := ⟨rfl, rfl, rfl, by decide +kernel, rfl, by decide +kernel, by decide +kernel⟩
theorem ok_product {f  : Addr} {fd  : FuncData} (F : Fun K "product_of" "product_of" sProduct f fd)  :
    FnOk P w K mg base CX0 1 f fd ["numbers"] spProduct := by
  refine F.ok scProduct (fun vs H Q E h => ?_) (fun cdv A outer s H vs Q E hr h => ?_)
  · obtain ⟨l, ns, rfl, _⟩ := h
    rfl
  · obtain ⟨l, ns, rfl, hl, hb, q⟩ := h
    have hu := hu_of hr
    refine ⟨_, pss_cons (ps_set (i := 1) scProduct.nd rfl (Or.inl rfl) pe_int)
      (pss_cons (ps_for PassesOwn.never rfl (pi_list (pv 0)) (pg_name (i := 2) scProduct.nd rfl (Or.inl rfl))
        (pss_one (ps_aug (i := 1) scProduct.nd rfl (Or.inl rfl) (pv 2) ip_mul)))
      (pss_one (ps_ret (pv 1)))), ?_⟩
    refine ⟨_, rfl, l, rfl, ⟨_, SqL.of hl⟩, for_list (xs := ns.map V.int) (fun i σ G => ∃ w2, σ = [some (.ref l), some (.int (prodI (ns.take i))), w2] ∧ G = H) ⟨none, rfl, rfl⟩ (fun i σ G _ e => by obtain ⟨_, _, rfl⟩ := e; exact SqL.of hl) ?_ ?_⟩
    · rintro i x σ G hx ⟨w2, rfl, rfl⟩
      rw [List.getElem?_map] at hx
      obtain ⟨n, hn, rfl⟩ := Option.map_eq_some_iff.mp hx
      have hm := hb n (List.mem_of_getElem? hn)
      refine ⟨_, rfl, _, rfl, _, _, rfl, rfl, Or.inr hm, some (.int n), ?_, rfl⟩
      rw [take_more hn, prod_more]
      rfl
    · rintro σ G ⟨w2, rfl, rfl⟩
      rw [List.length_map, List.take_length]
      exact ⟨_, rfl, q⟩
theorem scPower : FnScope ["base", "times"] ["base", "times"] (defScope sPower) := ⟨rfl, rfl, rfl, by decide +kernel, rfl, by decide +kernel, by decide +kernel⟩
theorem ok_power {f fP : Addr} {fd fdP : FuncData} (F : Fun K "power" "power" sPower f fd) 
    (GP : FnOk P w K mg base CX0 1 fP fdP ["numbers"] spProduct) (bP : Binds K fdP ["numbers"] []) (gP : mg "product_of" = some (.ref fP)) (kP9 : PySem.W.keepIn K (.ref fP) = true) :
    FnOk P w K mg base CX0 2 f fd ["base", "times"] spPower := by
  refine F.ok scPower (fun vs H Q E h => ?_) (fun cdv A outer s H vs Q E hr h => ?_)
  · obtain ⟨b, t, rfl, _⟩ := h
    rfl
  · obtain ⟨b, t, rfl, h1, h2, h3, h4, q⟩ := h
    have hu := hu_of hr
    have hr1 : Room 1 _ := hr.mono (by decide)
    refine ⟨_, pss_one (ps_ret (pe_call GP hr1 (by rfl) gP kP9 bP .nil pass0 (pa_cons (pe_op op_rep (pe_lst (pa_cons (pv 0) pa_nil)) (pv 1)) pa_nil))), ?_⟩
    refine ⟨_, rfl, by show 1 ≤ sizeLine; decide, fun l hl => ⟨_, rfl, l, t, [.int b], rfl, rfl, upd_same, by omega, by omega, ?_, fun p hp => ?_⟩⟩
    · have : t.toNat ≤ 1000 := by omega
      exact Nat.le_trans (Nat.mul_le_mul_left 1 this) (by decide)
    · refine ⟨p, List.replicate t.toNat b, rfl, ?_, fun n hn => ?_, ?_⟩
      · rw [upd_same, List.map_replicate]
        congr 2
        induction t.toNat with
        | zero => rfl
        | succ k ih => rw [List.replicate_succ, List.replicate_succ, List.flatten_cons, ih]; rfl
      · rw [List.eq_of_mem_replicate hn]
        exact ⟨h1, h2⟩
      · rw [prod_rep]
        exact q _ ((same_upd hl).trans (same_upd hp))
theorem scNeedNum : FnScope ["number"] ["number"] (defScope sNeedNum) := ⟨rfl, rfl, rfl, by decide +kernel, rfl, by decide +kernel, by decide +kernel⟩
theorem ok_needNum {f fU : Addr} {fd fdU : FuncData} (F : Fun K "need_number" "need_number" sNeedNum f fd) (EN : ErrAt P K mg "BadNumber" "number" CN fN)
    (GU : FnOk P w K mg base CX0 2 fU fdU ["thing"] (spIsNumber K)) (bU : Binds K fdU ["thing"] []) (gU : mg "is_number" = some (.ref fU)) (kU9 : PySem.W.keepIn K (.ref fU) = true) :
    FnOk P w K mg base (L2.CX P w) 3 f fd ["number"] (spNeedNum K CN) := by
  refine F.okX scNeedNum (fun vs H Q E h => ?_) (fun cdv A outer s H vs Q E hr h => ?_)
  · obtain ⟨v, k, rfl, _⟩ := h
    rfl
  · obtain ⟨v, k, rfl, hv, kbad, kgood⟩ := h
    have hu := hu_of hr
    have hr2 : Room 2 _ := hr.mono (by decide)
    refine ⟨_, pss_one (ps_if (pt_not (pt_val (pe_call GU hr2 (by rfl) gU kU9 bU .nil pass0 (pa_cons (pv 0) pa_nil)))) (pss_one (ps_raiseX rfl EN.x EN.g hr (takes_of rfl rfl rfl rfl) (by exact (pa_cons (pv 0) pa_nil)))) (pss_nil)), ?_⟩
    refine ⟨_, rfl, v, k, rfl, hv, fun H1 s1 => ⟨numB v, rfl, ?_⟩⟩
    cases hk : numB v with
    | false => exact iteT ⟨_, rfl, _, rfl, fun d hd => kbad hk d _ (s1.trans (same_upd hd)) upd_same⟩
    | true => exact iteF (kgood hk H1 s1)
theorem scCountNotes : FnScope ["path", "most", "many"] ["path", "most"] (defScope sCountNotes) := ⟨rfl, rfl, rfl, by decide +kernel, rfl, by decide +kernel, by decide +kernel⟩
theorem ok_countNotes {f fO fM fW : Addr} {fd fdO fdM fdW : FuncData} (F : Fun K "count_notes" "count_notes" sCountNotes f fd) (B : B0 K mg)
    (GO : FnOk P w K mg base CX0 2 fO fdO ["base", "times"] spPower) (bO : Binds K fdO ["base", "times"] []) (gO : mg "power" = some (.ref fO)) (kO9 : PySem.W.keepIn K (.ref fO) = true)
    (GM : FnOk P w K mg base (L2.CX P w) 3 fM fdM ["most"] (spNeedMost K CM)) (bM : Binds K fdM ["most"] []) (gM : mg "need_most" = some (.ref fM)) (kM9 : PySem.W.keepIn K (.ref fM) = true)
    (GW : FnOk P w K mg base (L2.CX P w) 2 fW fdW ["path"] (spWalkersOf K C CP)) (bW : Binds K fdW ["path"] []) (gW : mg "walkers_of" = some (.ref fW)) (kW9 : PySem.W.keepIn K (.ref fW) = true) :
    FnOk P w K mg base (L2.CX P w) 4 f fd ["path", "most"] (spCountNotes K C CP CM) := by
  refine F.okX scCountNotes (fun vs H Q E h => ?_) (fun cdv A outer s H vs Q E hr h => ?_)
  · obtain ⟨v, x, rfl, _⟩ := h
    rfl
  · obtain ⟨v, x, rfl, h⟩ := h
    have hu := hu_of hr
    have hr2 : Room 2 _ := hr.mono (by decide)
    have hr3 : Room 3 _ := hr.mono (by decide)
    refine ⟨_, pss_cons (ps_set (i := 2) scCountNotes.nd rfl (Or.inl rfl) (pe_callB call_len_seq (by rfl) B.len PySem.boot_len (pa_cons (pe_call GW hr2 (by rfl) gW kW9 bW .nil (passes_call (takes_of rfl rfl rfl rfl) fun _ _ _ _ h => h) (pa_cons (pv 0) pa_nil)) pa_nil)))
      (pss_cons (ps_expr (pe_call GM hr3 (by rfl) gM kM9 bM .nil (passes_call (takes_of rfl rfl rfl rfl) fun _ _ _ _ h => h) (pa_cons (pv 1) pa_nil)))
      (pss_one (ps_ret (pe_call GO hr2 (by rfl) gO kO9 bO .nil pass0 (pa_cons (pe_op op_add (pe_op op_mul (pv 1) (pv 2)) pe_int) (pa_cons (pe_op op_sub (pv 2) pe_int) pa_nil)))))), ?_⟩
    rcases h with ⟨k, ht, bad⟩ | ⟨p, t, zs, rfl, hp, hnd, hnm, hz, h2, hl, h⟩
    · exact ⟨_, rfl, v, rfl, .inl ⟨k, ht, bad⟩⟩
    refine ⟨_, rfl, .ref p, rfl, .inr ⟨p, t, zs, rfl, hp, fun n hn => ?_⟩⟩
    have sH1 : Same H (upd H n (.lst (zs.map V.str))) := same_upd hn
    refine ⟨n, zs.map V.str, rfl, .inl (SqL.of upd_same), ⟨_, rfl, st_nil (MostT.sp h sH1 fun i H2 ei hi g s2 => ?_)⟩⟩
    subst ei
    obtain ⟨hz30, hi50, q⟩ := g
    have h30 : (zs.length : Int) ≤ 30 := by omega
    have hm1 : i * (zs.length : Int) ≤ 2 ^ 50 * 30 := Int.mul_le_mul (by omega) h30 (by omega) (by decide)
    have hm0 : 0 ≤ i * (zs.length : Int) := Int.mul_nonneg (by omega) (by omega)
    refine ⟨_, rfl, _, rfl, _, _, rfl, rfl, Or.inl ⟨by omega, by omega⟩, _, _, rfl, rfl, _, rfl, _, _, rfl, rfl, _, _, rfl, ?_, ?_, ?_, ?_, fun H3 s3 => ?_⟩
    · rw [List.length_map]; omega
    · rw [List.length_map]; omega
    · rw [List.length_map]; omega
    · rw [List.length_map]; omega
    · have e1 : (((zs.map V.str).length : Nat) : Int) - 1 = ((zs.length - 1 : Nat) : Int) := by rw [List.length_map]; omega
      rw [e1, Int.toNat_natCast, List.length_map]
      exact q _ (sH1.trans (s2.trans s3))

end
end RK

namespace RK
open PySem L2
/-! ### the series of inclusion and exclusion, by their own steps -/
abbrev Ser := List (Int × Int)
def kvI (l : Ser) : List (Key × V) := l.map fun p => ((Sum.inl p.1 : Key), V.int p.2)
def getS (l : Ser) (k : Int) : Int := match l.find? fun p => decide (p.1 = k) with
  | some p => p.2
  | none => 0
def putS (l : Ser) (k x : Int) : Ser := if (l.any fun p => decide (p.1 = k)) = true then l.map (fun p => if p.1 = k then (p.1, x) else p) else l ++ [(k, x)]
def stepS (size fewer : Nat) (most : Int) (kn : Ser) (s : Ser) (k : Int) : Ser :=
  let place := k + ((size : Int) - fewer) * ((fewer : Int) * most + 1)
  putS s place (getS s place - chooseI size fewer * getS kn k)
def serIn (size fewer : Nat) (most : Int) (kn : Ser) (s : Ser) : Ser := (kn.map (·.1)).foldl (stepS size fewer most kn) s
def serTo (most : Int) (known : List Ser) (size fewer : Nat) : Ser := (List.range fewer).foldl (fun s f => serIn size f most (known[f]?.getD []) s) [(0, 1)]
def knownI (most : Int) : Nat → List Ser
  | 0 => []
  | n + 1 => knownI most n ++ [serTo most (knownI most n) n n]
def diffI (n : Nat) (most : Int) : Ser := serTo most (knownI most n) n n
theorem val_kvI {k : Int} : ∀ {l : Ser}, valV (kvI l) (Sum.inl k : Key) = (l.find? fun p => decide (p.1 = k)).map fun p => V.int p.2
  | [] => rfl
  | p :: r => by
    have e : kvI (p :: r) = ((Sum.inl p.1 : Key), V.int p.2) :: kvI r := rfl
    rw [e, List.find?_cons]
    by_cases h : p.1 = k
    · rw [valV_pos (by rw [h]), decide_eq_true h]
      rfl
    · rw [valV_neg (fun z => h (Sum.inl.inj z)), decide_eq_false h]
      exact val_kvI
theorem get_kvI {l : Ser} {k : Int} : ((valV (kvI l) (Sum.inl k : Key)).getD (.int 0)) = .int (getS l k) := by
  rw [val_kvI]
  unfold getS
  cases l.find? fun p => decide (p.1 = k) <;> rfl
theorem has_kvI {l : Ser} {k : Int} (h : k ∈ l.map (·.1)) : valV (kvI l) (Sum.inl k : Key) = some (.int (getS l k)) := by
  rw [val_kvI]
  unfold getS
  cases e : l.find? fun p => decide (p.1 = k) with
  | some p => rfl
  | none =>
    obtain ⟨p, hp, rfl⟩ := List.mem_map.mp h
    exact absurd (decide_eq_true rfl) (List.find?_eq_none.mp e p hp)
theorem put_kvI {l : Ser} {k x : Int} : putK (kvI l) (Sum.inl k : Key) (.int x) = kvI (putS l k x) := by
  have ea : ((kvI l).any fun kv => decide (kv.1 = (Sum.inl k : Key))) = l.any fun p => decide (p.1 = k) := by
    unfold kvI
    rw [List.any_map]
    congr 1
    funext p
    exact decide_eq_decide.mpr ⟨fun e => Sum.inl.inj e, fun e => by rw [← e]⟩
  unfold putK putS
  rw [ea]
  by_cases h : (l.any fun p => decide (p.1 = k)) = true
  · rw [if_pos h, if_pos h]
    unfold kvI
    rw [List.map_map, List.map_map]
    refine List.map_congr_left fun p _ => ?_
    show (if (Sum.inl p.1 : Key) = Sum.inl k then _ else _) = _
    show _ = ((Sum.inl (if p.1 = k then (p.1, x) else p).1 : Key), V.int (if p.1 = k then (p.1, x) else p).2)
    by_cases e : p.1 = k
    · rw [if_pos e, if_pos (by rw [e])]
    · rw [if_neg e, if_neg fun z => e (Sum.inl.inj z)]
  · rw [if_neg h, if_neg h]
    unfold kvI
    rw [List.map_append]
    rfl
theorem put_len {l : Ser} {k x : Int} : (putS l k x).length ≤ l.length + 1 := by
  unfold putS
  split
  · rw [List.length_map]; omega
  · rw [List.length_append]; exact Nat.le_refl _
theorem fold_len {size fewer : Nat} {most : Int} {kn : Ser} : ∀ {ks : List Int} {s : Ser}, (ks.foldl (stepS size fewer most kn) s).length ≤ s.length + ks.length
  | [], s => Nat.le_refl _
  | k :: r, s => by
    have h1 := fold_len (size := size) (fewer := fewer) (most := most) (kn := kn) (ks := r) (s := stepS size fewer most kn s k)
    have h2 : (stepS size fewer most kn s k).length ≤ s.length + 1 := put_len
    rw [List.foldl_cons, List.length_cons]
    omega
theorem known_len {most : Int} : ∀ n, (knownI most n).length = n
  | 0 => rfl
  | n + 1 => by rw [knownI, List.length_append, known_len n]; rfl
theorem serTo_len {most : Int} {known : List Ser} {size : Nat} {b : Nat} (hb : ∀ s ∈ known, s.length ≤ b) : ∀ f, (serTo most known size f).length ≤ 1 + f * b
  | 0 => by rw [Nat.zero_mul]; exact Nat.le_refl 1
  | f + 1 => by
    have ih := serTo_len (most := most) (size := size) hb f
    unfold serTo at ih ⊢
    rw [List.range_succ, List.foldl_append]
    have h1 := fold_len (size := size) (fewer := f) (most := most) (kn := known[f]?.getD []) (ks := (known[f]?.getD []).map (·.1)) (s := (List.range f).foldl (fun s f => serIn size f most (known[f]?.getD []) s) [(0, 1)])
    have h2 : (known[f]?.getD []).length ≤ b := by
      cases e : known[f]? with
      | none => exact Nat.zero_le _
      | some s => exact hb s (List.mem_of_getElem? e)
    rw [List.length_map] at h1
    rw [Nat.succ_mul]
    exact Nat.le_trans h1 (by omega)
theorem known_small {most : Int} (hm : 1 ≤ most) (hm6 : most ≤ 6) : ∀ n, n ≤ 7 → ∀ s ∈ knownI most n, s.length ≤ 8 ^ n := by
  intro n
  induction n with
  | zero => intro _ s hs; cases hs
  | succ n ih =>
    intro hn s hs
    rw [knownI] at hs
    have h8 : 8 ^ n ≤ 8 ^ (n + 1) := Nat.pow_le_pow_right (by decide) (Nat.le_succ n)
    rcases List.mem_append.mp hs with h | h
    · exact Nat.le_trans (ih (by omega) s h) h8
    · rw [List.mem_singleton.mp h]
      have h1 := serTo_len (most := most) (size := n) (ih (by omega)) n
      have h2 : n * 8 ^ n ≤ 6 * 8 ^ n := Nat.mul_le_mul_right _ (by omega)
      have h3 : 1 ≤ 8 ^ n := Nat.pos_of_ne_zero (by exact Nat.ne_of_gt (Nat.pow_pos (by decide)))
      rw [Nat.pow_succ]
      omega
theorem serTo_more {most : Int} {known : List Ser} {size f : Nat} {kn : Ser} (h : known[f]? = some kn) : serTo most known size (f + 1) = (kn.map (·.1)).foldl (stepS size f most kn) (serTo most known size f) := by
  unfold serTo
  rw [List.range_succ, List.foldl_append, List.foldl_cons, List.foldl_nil, h]
  rfl
theorem known_get {most : Int} {n i : Nat} (h : i < n) : (knownI most n)[i]? = some (diffI i most) := by
  induction n with
  | zero => omega
  | succ n ih =>
    rw [knownI]
    by_cases e : i < n
    · rw [List.getElem?_append_left (by rw [known_len]; exact e)]
      exact ih e
    · have : i = n := by omega
      subst this
      rw [List.getElem?_append_right (by rw [known_len]; exact Nat.le_refl _), known_len, Nat.sub_self]
      rfl
theorem paired_get' {α β : Type} {F : α → β → Prop} : ∀ {l : List α} {m : List β} {i : Nat} {b : β}, Paired F l m → m[i]? = some b → ∃ a, l[i]? = some a ∧ F a b
  | _, _, _, _, .nil, h => by simp at h
  | _, _, 0, _, .cons h _, e => by cases e; exact ⟨_, rfl, h⟩
  | _, _, i + 1, _, .cons _ r, e => paired_get' (i := i) r e
theorem choose_small : ∀ a < 9, ∀ b < 9, (chooseI (a : Nat) (b : Nat)).natAbs < 2 ^ 60 := by decide +kernel
def spDiffs : Sp := fun vs H Q _ => ∃ (n : Nat) (m : Int), vs = [.int n, .int m] ∧ n ≤ 6 ∧ 1 ≤ m ∧ m ≤ 6 ∧ ∀ d H', H d = none → H' d = some (.dK (kvI (diffI n m))) → Same H H' → Q (.ref d) H'
def notedI (n : Nat) (m y : Int) : Int := ((diffI n m).map fun p => getS (diffI n m) p.1 * chooseI (y - p.1 + n - 1) (n - 1)).sum
def spCountNoted (K : PySem.W.Frag) (C CP CM CN : Addr) : Sp := fun vs H Q E => ∃ v x y, vs = [v, x, y] ∧ PathT K C CP v H E fun zs => MostT K CM x H E fun k => NumT K CN y H E fun i =>
  zs.length ≤ 6 ∧ k ≤ 6 ∧ i ≤ 400 ∧ ∀ H', Same H H' → Q (.int (notedI zs.length k i)) H'
theorem diff_keys : ∀ n < 7, ∀ m < 7, ((diffI n (m : Nat)).all fun p => decide (0 ≤ p.1)) = true := by decide +kernel
theorem choose_mid : ∀ a < 410, ∀ b < 6, (chooseI (a : Nat) (b : Nat)).natAbs < 2 ^ 60 := by decide +kernel
def Kept (e : Addr) (H G : Hp) : Prop := ∀ b o, b ≠ e → H b = some o → G b = some o
theorem keysI_it {K : PySem.W.Frag} {σ : St} {vs : List Nat} {i j : Nat} {te : TE} {e : Addr} {H1 : Hp} {l : Ser} {h : Int → Int} {Q : VK}
    (hj : σ[j]? = some (some (.ref e))) (he : H1 e = some (.dK (kvI l))) (hl : l.length < sizeLine) (hw : ∀ x, wipe ((wipe σ vs).set i (some x)) vs = wipe σ vs)
    (hv : ∀ k ∈ l.map (·.1), ∀ (G : Hp) (Q2 : VK), Kept e H1 G → DGet G e (.int k) (some (.int (getS l k))) → (∀ G', Same G G' → Q2 (.int (h k)) G') → te ((wipe σ vs).set i (some (.int k))) G Q2)
    (fin : ∀ D H', Same H1 H' → H' D = some (.lst ((l.map fun p => h p.1).map V.int)) → Q (.ref D) H') : tLockE (tLc (iKeys (tVar j)) (gName i) tYes te vs) σ H1 Q := by
  refine ⟨e, _, he, trivial, fun od => ?_⟩
  generalize hE : upd H1 e (.frz od _) = H2
  have e2 := congrFun hE.symm e
  rw [upd_same] at e2
  have b2 : ∀ b o, b ≠ e → H1 b = some o → H2 b = some o := fun b o hb h => by rw [← hE, upd_ne hb]; exact h
  have b2' : ∀ b, b ≠ e → H2 b = H1 b := fun b hb => by rw [← hE, upd_ne hb]
  clear hE
  refine ⟨_, hj, e, od, rfl, .inl ⟨_, e2, fun D hD => ?_⟩⟩
  have hDe : D ≠ e := fun z => by rw [z, e2] at hD; cases hD
  have plen : (kvI l).length = l.length := List.length_map _
  refine lc_it (walk_keys (d := e) (o := od) (kvs := kvI l)) (fun i G => Same H2 G ∧ G D = some (.lst (((l.take i).map fun p => h p.1).map V.int))) ⟨same_upd hD, upd_same⟩ (fun i G _ p => p.1 _ _ e2) ?_ ?_
  · rintro t x G1 G2 hi ⟨sm, hacc⟩ ⟨rfl, k0, v0, hkv, rfl⟩
    rw [plen] at hi
    have ep : l[t]? = some l[t] := List.getElem?_eq_getElem hi
    unfold kvI at hkv
    rw [List.getElem?_map, ep] at hkv
    obtain ⟨rfl, rfl⟩ := Prod.mk.inj (Option.some.inj hkv)
    have hmem : l[t].1 ∈ l.map (·.1) := List.mem_map.mpr ⟨_, List.mem_of_getElem? ep, rfl⟩
    rw [take_more ep, List.map_append, List.map_append]
    refine ⟨hw _, ?_⟩
    refine hv _ hmem _ _ (fun b o hb hh => sm _ _ (b2 _ _ hb hh)) (.inl ⟨_, (Sum.inl _ : Key), .inr ⟨od, sm _ _ e2⟩, rfl, (has_kvI hmem).symm⟩) fun G' s' => ?_
    refine ⟨_, s' _ _ hacc, ?_, fun b o hb => ?_, upd_same⟩
    · rw [List.length_map, List.length_map]
      exact Nat.lt_of_le_of_lt (by rw [List.length_take]; exact Nat.min_le_right _ _) hl
    · rw [upd_ne (ne_of_none hb hD)]
      exact s' _ _ (sm _ _ hb)
  · rintro G ⟨sm, hacc⟩
    rw [plen, List.take_length] at hacc
    refine ⟨sm _ _ e2, ?_⟩
    refine fin D _ (fun b o hb => ?_) (by rw [upd_ne hDe]; exact hacc)
    by_cases z : b = e
    · rw [z] at hb ⊢
      rw [upd_same, ← hb, he]
    · rw [upd_ne z]
      exact sm _ _ (b2 _ _ z hb)
section
variable {P : Program} {w : World} {K : PySem.W.Frag} {mg : Str → Option Value} {base : Heap} {C CP CM CN fN : Addr}
theorem scDiffs : FnScope ["many", "most", "known", "size", "series", "fewer", "further", "sums", "place"] ["many", "most"] (defScope sDiffs) := ⟨rfl, rfl, rfl, by decide +kernel, rfl, by decide +kernel, by decide +kernel⟩
theorem ok_diffs {f fC : Addr} {fd fdC : FuncData} (F : Fun K "differences" "differences" sDiffs f fd) (B : B0 K mg)
    (GC : FnOk P w K mg base CX0 1 fC fdC ["many", "few"] spChoose) (bC : Binds K fdC ["many", "few"] []) (gC : mg "choose" = some (.ref fC)) (kC9 : PySem.W.keepIn K (.ref fC) = true) :
    FnOk P w K mg base CX0 2 f fd ["many", "most"] spDiffs := by
  refine F.ok scDiffs (fun vs H Q E h => ?_) (fun cdv A outer s H vs Q E hr h => ?_)
  · obtain ⟨n, m, rfl, _⟩ := h
    rfl
  · obtain ⟨n, m, rfl, hn, hm1, hm6, q⟩ := h
    have hu := hu_of hr
    have hr1 : Room 1 _ := hr.mono (by decide)
    refine ⟨_, pss_cons (ps_set (i := 2) scDiffs.nd rfl (Or.inl rfl) (pe_lst pa_nil))
      (pss_cons (ps_for PassesOwn.never rfl (pi_range1 (by rfl) B.range (pa_cons (pe_op op_add (pv 0) pe_int) pa_nil)) (pg_name (i := 3) scDiffs.nd rfl (Or.inl rfl))
        (pss_cons (ps_set (i := 4) scDiffs.nd rfl (Or.inl rfl) (pe_disp (pps_cons pe_int pe_int pps_nil) (by rfl) (by rfl) (fun z => by cases z) (by decide)))
      (pss_cons (ps_for PassesOwn.never rfl (pi_range1 (by rfl) B.range (pa_cons (pv 3) pa_nil)) (pg_name (i := 5) scDiffs.nd rfl (Or.inl rfl))
        (pss_cons (ps_set (i := 6) scDiffs.nd rfl (Or.inl rfl) (pe_op op_mul (pe_op op_sub (pv 3) (pv 5)) (pe_op op_add (pe_op op_mul (pv 5) (pv 1)) pe_int)))
      (pss_one (ps_lock (ps_for PassesOwn.never rfl (pi_keys (pe_ix ix_list (pv 2) (pv 5) (fun _ _ => rfl))) (pg_name (i := 7) scDiffs.nd rfl (Or.inl rfl))
        (pss_cons (ps_set (i := 8) scDiffs.nd rfl (Or.inl rfl) (pe_op op_add (pv 7) (pv 6)))
      (pss_one (ps_dput hu (pv 4) (pv 8) (pe_op op_sub (pe_dget2 hu (pv 4) (pv 8) pe_int ⟨rfl, rfl, rfl, rfl⟩) (pe_op op_mul (pe_call GC hr1 (by rfl) gC kC9 bC .nil pass0 (pa_cons (pv 3) (pa_cons (pv 5) pa_nil))) (pe_dget hu (pe_ix ix_list (pv 2) (pv 5) (fun _ _ => rfl)) (pv 7) (fun _ _ => rfl)))) rfl))))))))
      (pss_one (ps_expr (pe_bm PySem.F.plainAttrs_list PySem.F.slot_list_append PySem.F.type_list_append mt_append (pv 2) (pa_cons (pv 4) pa_nil)))))))
      (pss_one (ps_ret (pe_ix ix_list (pv 2) (pv 0) (fun _ _ => rfl))))), ?_⟩
    refine ⟨by show 0 ≤ sizeLine; decide, fun L hL => ?_⟩
    generalize hE : upd H L _ = H1
    have sH1 : Same H H1 := hE ▸ same_upd hL
    have eL := congrFun hE.symm L
    rw [upd_same] at eL
    clear hE
    refine ⟨_, rfl, _, _, rfl, rfl, ((n + 1 : Nat) : Int), congrArg (fun i => [V.int i]) (by omega : (n : Int) + 1 = ((n + 1 : Nat) : Int)), by omega, by omega, for_range (n := n + 1) (fun i σ G => ∃ w3 w4 w5 w6 w7 w8 ds, σ = [some (.int n), some (.int m), some (.ref L), w3, w4, w5, w6, w7, w8] ∧ But L H1 G ∧ G L = some (.lst (ds.map V.ref)) ∧ Paired (fun (d : Addr) (s : Ser) => H d = none ∧ d ≠ L ∧ G d = some (.dK (kvI s))) ds (knownI m i)) ⟨none, none, none, none, none, none, [], rfl, Same.but (Same.refl H1), eL, .nil⟩ ?_ ?_⟩
    · rintro i σ G hi ⟨w3, w4, w5, w6, w7, w8, ds, rfl, bG, eG, hpr⟩
      rw [show (0 : Int) + (i : Nat) = (i : Int) from Int.zero_add _]
      have hds : ds.length = i := by rw [Paired.length hpr, known_len]
      refine fun S hS => ⟨upd_same, [((Sum.inl 0 : Key), V.int 1)], rfl, by decide, ?_⟩
      have hSL : S ≠ L := fun z => by rw [z, eG] at hS; cases hS
      generalize hE : upd (upd G S _) S _ = G1
      have sG1 : Same G G1 := fun c o e => by rw [← hE, upd_ne (ne_of_none e hS), upd_ne (ne_of_none e hS)]; exact e
      have eS : G1 S = some (.dK (kvI [(0, 1)])) := by rw [← hE, upd_same]; rfl
      clear hE
      have eG1 := sG1 _ _ eG
      refine ⟨_, rfl, i, rfl, by omega, by omega, for_range (n := i) (fun f σ G' => ∃ w5 w6 w7 w8, σ = [some (.int n), some (.int m), some (.ref L), some (.int (i : Int)), some (.ref S), w5, w6, w7, w8] ∧ But S G1 G' ∧ G' S = some (.dK (kvI (serTo m (knownI m i) i f)))) ⟨w5, w6, w7, w8, rfl, Same.but (Same.refl G1), eS⟩ ?_ ?_⟩
      · rintro f σ G' hf ⟨w5', w6', w7', w8', rfl, bS, eS'⟩
        rw [show (0 : Int) + (f : Nat) = (f : Int) from Int.zero_add _]
        have hkf := known_get (most := m) hf
        obtain ⟨df, hdf, hdH, hdL, hdG⟩ := paired_get' hpr hkf
        have hdS : df ≠ S := fun z => by rw [z, hS] at hdG; cases hdG
        have hdG' := bS _ _ hdS (sG1 _ _ hdG)
        have eL' := bS _ _ (Ne.symm hSL) eG1
        have hdl : (ds.map V.ref)[f]? = some (V.ref df) := by rw [List.getElem?_map, hdf]; rfl
        have hsl : (diffI f m).length ≤ 8 ^ 7 := Nat.le_trans (known_small hm1 hm6 (f + 1) (by omega) _ (List.mem_of_getElem? (known_get (Nat.lt_succ_self f)))) (Nat.pow_le_pow_right (by decide) (by omega))
        refine ⟨_, rfl, _, rfl, _, _, rfl, rfl, _, rfl, _, rfl, _, _, rfl, rfl, Or.inl ⟨by omega, by omega⟩, _, _, rfl, rfl, _, _, rfl, rfl, Or.inl ⟨by omega, by omega⟩, ?_⟩
        refine ⟨df, _, hdG', trivial, fun od => ?_⟩
        generalize hE : upd G' df _ = G2
        have e2d := congrFun hE.symm df
        rw [upd_same] at e2d
        have b2 : ∀ c o, c ≠ df → G' c = some o → G2 c = some o := fun c o hc e => by rw [← hE, upd_ne hc]; exact e
        clear hE
        have eL2 := b2 _ _ (Ne.symm hdL) eL'
        have eS2 := b2 _ _ (Ne.symm hdS) eS'
        have klen : (kvI (diffI f m)).length = (diffI f m).length := List.length_map _
        refine ⟨_, rfl, _, rfl, L, _, _, _, rfl, rfl, SqL.of eL2, atI_nat hdl, df, od, rfl, .inl ⟨_, e2d, for_it (walk_keys (d := df) (o := od) (kvs := kvI (diffI f m))) (fun t σ G'' => ∃ w7 w8, σ = [some (.int n), some (.int m), some (.ref L), some (.int (i : Int)), some (.ref S), some (.int (f : Int)), some (.int (((i : Int) - f) * ((f : Int) * m + 1))), w7, w8] ∧ But S G2 G'' ∧ ∃ s, G'' S = some (.dK (kvI s)) ∧ s = (((diffI f m).map (·.1)).take t).foldl (stepS i f m (diffI f m)) (serTo m (knownI m i) i f)) ⟨w7', w8', rfl, Same.but (Same.refl G2), _, eS2, rfl⟩ (fun t σ G'' _ ⟨_, _, _, b, _⟩ => b _ _ hdS e2d) ?_ ?_⟩⟩
        · rintro t x σ G0 G3 ht ⟨w7, w8, rfl, b3, s, e3, hs⟩ ⟨rfl, k, v, hkv, rfl⟩
          rw [klen] at ht
          have ep : (diffI f m)[t]? = some (diffI f m)[t] := List.getElem?_eq_getElem ht
          have hkv2 := hkv
          unfold kvI at hkv2
          rw [List.getElem?_map, ep] at hkv2
          obtain ⟨rfl, rfl⟩ := Prod.mk.inj (Option.some.inj hkv2)
          have hmem : (diffI f m)[t].1 ∈ (diffI f m).map (·.1) := List.mem_map.mpr ⟨_, List.mem_of_getElem? ep, rfl⟩
          have epk : ((diffI f m).map (·.1))[t]? = some (diffI f m)[t].1 := by rw [List.getElem?_map, ep]; rfl
          generalize (diffI f m)[t].1 = kx at hmem epk hkv
          have hcs := choose_small i (by omega) f (by omega)
          have hslen : s.length < sizeLine := by
            have h1 := fold_len (size := i) (fewer := f) (most := m) (kn := diffI f m) (ks := ((diffI f m).map (·.1)).take t) (s := serTo m (knownI m i) i f)
            have h2 := serTo_len (most := m) (size := i) (fun s hs => Nat.le_trans (known_small hm1 hm6 i (by omega) s hs) (Nat.pow_le_pow_right (by decide) (by omega) : 8 ^ i ≤ 8 ^ 7)) f
            have h3 : f * 8 ^ 7 ≤ 6 * 8 ^ 7 := Nat.mul_le_mul_right _ (by omega)
            rw [List.length_take, List.length_map] at h1
            rw [hs]
            have h4 : sizeLine = 16777216 := by decide
            have h5 : (8 : Nat) ^ 7 = 2097152 := by decide
            omega
          refine ⟨_, rfl, _, rfl, _, _, rfl, rfl, ?_⟩
          refine ⟨_, rfl, S, rfl, .inl ⟨_, .inl e3⟩, _, rfl, _, DGet.k (k := (Sum.inl _ : Key)) e3, ?_⟩
          rw [get_kvI]
          refine ⟨_, rfl, _, rfl, _, _, rfl, by omega, by omega, by omega, ?_⟩
          refine ⟨_, rfl, _, rfl, L, _, _, _, rfl, rfl, SqL.of (b3 _ _ (Ne.symm hSL) eL2), atI_nat hdl, _, rfl, df, _, rfl, .inl ⟨_, (Sum.inl kx : Key), .inr ⟨od, b3 _ _ hdS e2d⟩, rfl, (has_kvI hmem).symm⟩, ?_⟩
          refine ⟨_, _, rfl, rfl, Or.inl ⟨by omega, by omega⟩, _, _, rfl, rfl, _, rfl, _, rfl, S, _, rfl, DPut.k (k := (Sum.inl _ : Key)) e3 (by unfold kvI; rw [List.length_map]; exact hslen), ?_⟩
          refine ⟨_, _, rfl, b3.trans But.upd, _, by rw [upd_same, put_kvI], ?_⟩
          rw [take_more epk, List.foldl_append, ← hs]
          rfl
        · rintro σ G'' ⟨w7, w8, rfl, b3, s, e3, hs⟩
          rw [klen, List.take_of_length_le (by rw [List.length_map]; exact Nat.le_refl _)] at hs
          refine ⟨b3 _ _ hdS e2d, _, _, _, _, rfl, fun c o hc e => ?_, ?_⟩
          · by_cases z : c = df
            · subst z
              rw [upd_same, ← hdG', bS _ _ hdS e]
            · rw [upd_ne z]
              exact b3 _ _ hc (b2 _ _ z (bS _ _ hc e))
          · rw [upd_ne (Ne.symm hdS), e3, hs, serTo_more hkf]
      · rintro σ G' ⟨w5', w6', w7', w8', rfl, bS, eS'⟩
        refine ⟨_, rfl, .inl ⟨rfl, _, SqL.of (bS _ _ (Ne.symm hSL) eG1)⟩, _, rfl, L, _, _, rfl, rfl, bS _ _ (Ne.symm hSL) eG1, ?_, ?_⟩
        · rw [List.length_map, hds]
          exact Nat.lt_of_le_of_lt (by omega : i ≤ 7) (by decide)
        refine ⟨_, _, _, _, _, _, ds ++ [S], rfl, fun c o hc e => ?_, by rw [upd_same, List.map_append]; rfl, ?_⟩
        · rw [upd_ne hc]
          have e0 := bG _ _ hc e
          exact bS _ _ (ne_of_none e0 hS) (sG1 _ _ e0)
        · rw [knownI]
          refine Paired.snoc (Paired.mono (fun d s h => ⟨h.1, h.2.1, by rw [upd_ne h.2.1]; exact bS _ _ (ne_of_none h.2.2 hS) (sG1 _ _ h.2.2)⟩) hpr) ⟨?_, hSL, by rw [upd_ne hSL]; exact eS'⟩
          cases e : H S with
          | none => rfl
          | some o =>
            have := bG _ _ hSL (sH1 _ _ e)
            rw [hS] at this
            cases this
    · rintro σ G ⟨w3, w4, w5, w6, w7, w8, ds, rfl, bG, eG, hpr⟩
      obtain ⟨d, hd, hdH, hdL, hdG⟩ := paired_get' hpr (known_get (most := m) (Nat.lt_succ_self n))
      refine ⟨_, rfl, _, rfl, L, _, _, _, rfl, rfl, SqL.of eG, atI_nat (by rw [List.getElem?_map, hd]; rfl), q d _ hdH hdG fun c o e => bG _ _ (ne_of_none e hL) (sH1 _ _ e)⟩
theorem scCountNoted : FnScope ["path", "most", "number", "many", "series", "sums"] ["path", "most", "number"] (defScope sCountNoted) := ⟨rfl, rfl, rfl, by decide +kernel, rfl, by decide +kernel, by decide +kernel⟩
theorem ok_countNoted {f fC fD fN fM fW : Addr} {fd fdC fdD fdN fdM fdW : FuncData} (F : Fun K "count_noted" "count_noted" sCountNoted f fd) (B : B0 K mg) (zsum : mg "sum" = none)
    (GC : FnOk P w K mg base CX0 1 fC fdC ["many", "few"] spChoose) (bC : Binds K fdC ["many", "few"] []) (gC : mg "choose" = some (.ref fC)) (kC9 : PySem.W.keepIn K (.ref fC) = true)
    (GD : FnOk P w K mg base CX0 2 fD fdD ["many", "most"] spDiffs) (bD : Binds K fdD ["many", "most"] []) (gD : mg "differences" = some (.ref fD)) (kD9 : PySem.W.keepIn K (.ref fD) = true)
    (GN : FnOk P w K mg base (L2.CX P w) 3 fN fdN ["number"] (spNeedNum K CN)) (bN : Binds K fdN ["number"] []) (gN : mg "need_number" = some (.ref fN)) (kN9 : PySem.W.keepIn K (.ref fN) = true)
    (GM : FnOk P w K mg base (L2.CX P w) 3 fM fdM ["most"] (spNeedMost K CM)) (bM : Binds K fdM ["most"] []) (gM : mg "need_most" = some (.ref fM)) (kM9 : PySem.W.keepIn K (.ref fM) = true)
    (GW : FnOk P w K mg base (L2.CX P w) 2 fW fdW ["path"] (spWalkersOf K C CP)) (bW : Binds K fdW ["path"] []) (gW : mg "walkers_of" = some (.ref fW)) (kW9 : PySem.W.keepIn K (.ref fW) = true) :
    FnOk P w K mg base (L2.CX P w) 4 f fd ["path", "most", "number"] (spCountNoted K C CP CM CN) := by
  refine F.okX scCountNoted (fun vs H Q E h => ?_) (fun cdv A outer s H vs Q E hr h => ?_)
  · obtain ⟨v, x, y, rfl, _⟩ := h
    rfl
  · obtain ⟨v, x, y, rfl, h⟩ := h
    have hu := hu_of hr
    have hr1 : Room 1 _ := hr.mono (by decide)
    have hr2 : Room 2 _ := hr.mono (by decide)
    have hr3 : Room 3 _ := hr.mono (by decide)
    refine ⟨_, pss_cons (ps_set (i := 3) scCountNoted.nd rfl (Or.inr rfl) (pe_callB call_len_seq (by rfl) B.len PySem.boot_len (pa_cons (pe_call GW hr2 (by rfl) gW kW9 bW .nil (passes_call (takes_of rfl rfl rfl rfl) fun _ _ _ _ h => h) (pa_cons (pv 0) pa_nil)) pa_nil)))
      (pss_cons (ps_expr (pe_call GM hr3 (by rfl) gM kM9 bM .nil (passes_call (takes_of rfl rfl rfl rfl) fun _ _ _ _ h => h) (pa_cons (pv 1) pa_nil)))
      (pss_cons (ps_expr (pe_call GN hr3 (by rfl) gN kN9 bN .nil (passes_call (takes_of rfl rfl rfl rfl) fun _ _ _ _ h => h) (pa_cons (pv 2) pa_nil)))
      (pss_cons (ps_set (i := 4) scCountNoted.nd rfl (Or.inr rfl) (pe_call GD hr2 (by rfl) gD kD9 bD .nil pass0 (pa_cons (pv 3) (pa_cons (pv 1) pa_nil))))
      (pss_one (ps_ret (pe_callB (cr_sum rfl) (by rfl) zsum (by decide +kernel) (pa_cons (pe_lock (pe_lc (te := (tOp (rI CMul fun i j => .int (i * j)) (tDGet (tVar 4) (tVar 5)) (tCall spChoose [] E0 (tCons (tOp (rI0 fun i j => .int (i - j)) (tOp (rI0 fun i j => .int (i + j)) (tOp (rI0 fun i j => .int (i - j)) (tVar 2) (tVar 5)) (tVar 3)) (L2.tC (.int 1))) (tCons (tOp (rI0 fun i j => .int (i - j)) (tVar 3) (L2.tC (.int 1))) tNil))))) (own := [("sums", 5)]) (g := (gName 5)) (tt := tYes) rfl scCountNoted.nd (pi_keys (pv 4)) (blkOk_by (N := ["path", "most", "number", "many", "series", "sums"]) (sc := defScope sCountNoted) (by decide +kernel))
          (fun _ _ _ _ _ => (pg_name (i := 5) scCountNoted.nd rfl (Or.inl rfl))) (fun _ _ _ _ _ => pts_nil) (fun _ _ _ _ _ => by exact (pe_op op_mul (pe_dget hu (pv 4) (pv 5) (fun _ _ => rfl)) (pe_call GC hr1 (by rfl) gC kC9 bC .nil pass0 (pa_cons (pe_op op_sub (pe_op op_add (pe_op op_sub (pv 2) (pv 5)) (pv 3)) pe_int) (pa_cons (pe_op op_sub (pv 3) pe_int) pa_nil))))))) pa_nil))))))), ?_⟩
    rcases h with ⟨k, ht, bad⟩ | ⟨p, t, zs, rfl, hp, hnd, hnm, hz, h2, hl, h⟩
    · exact ⟨_, rfl, v, rfl, .inl ⟨k, ht, bad⟩⟩
    refine ⟨_, rfl, .ref p, rfl, .inr ⟨p, t, zs, rfl, hp, fun n hn => ?_⟩⟩
    have sH1 : Same H (upd H n (.lst (zs.map V.str))) := same_upd hn
    refine ⟨n, zs.map V.str, rfl, .inl (SqL.of upd_same), ⟨_, rfl, st_nil (MostT.sp h sH1 fun i H2 ei hi g s2 => ?_)⟩⟩
    subst ei
    have s02 := sH1.trans s2
    refine ⟨_, rfl, st_nil (NumT.sp g s02 fun j H3 ej hj g2 s3 => ?_)⟩
    subst ej
    obtain ⟨hz6, hi6, hj4, q⟩ := g2
    have s03 := s02.trans s3
    rw [List.length_map]
    refine ⟨_, rfl, _, rfl, zs.length, i, rfl, hz6, hi, hi6, fun e H4 he0 he s4 => ?_⟩
    have s04 := s03.trans s4
    obtain ⟨mi, rfl⟩ : ∃ mi : Nat, i = (mi : Int) := ⟨i.toNat, by omega⟩
    have hlen : (diffI zs.length (mi : Nat)).length < sizeLine := by
      have h1 := known_small hi hi6 (zs.length + 1) (by omega) _ (List.mem_of_getElem? (known_get (Nat.lt_succ_self zs.length)))
      exact Nat.lt_of_le_of_lt (Nat.le_trans h1 (Nat.pow_le_pow_right (by decide) (by omega : zs.length + 1 ≤ 7))) (by decide)
    have hkeys := List.all_eq_true.mp (diff_keys zs.length (by omega) mi (by omega))
    refine keysI_it (K := K) (j := 4) (e := e) (h := fun k => getS (diffI zs.length (mi : Nat)) k * chooseI (j - k + zs.length - 1) (zs.length - 1)) rfl he hlen (fun _ => rfl) (fun k hk G Q2 kp hg qq => ?_) fun D H5 s5 hD => ?_
    · obtain ⟨p', hp', rfl⟩ := List.mem_map.mp hk
      have h0 : 0 ≤ p'.1 := of_decide_eq_true (hkeys p' hp')
      generalize p'.1 = k at h0 hg qq hk
      have hb : (chooseI (j - k + zs.length - 1) ((zs.length : Int) - 1)).natAbs < 2 ^ 60 := by
        by_cases hneg : j - k + zs.length - 1 < 0
        · rw [show chooseI (j - k + zs.length - 1) ((zs.length : Int) - 1) = 0 from if_pos hneg]; decide
        · have := choose_mid (j - k + zs.length - 1).toNat (by omega) (zs.length - 1) (by omega)
          rw [show (((j - k + zs.length - 1).toNat : Nat) : Int) = j - k + zs.length - 1 by omega, show ((zs.length - 1 : Nat) : Int) = (zs.length : Int) - 1 by omega] at this
          exact this
      refine ⟨_, rfl, _, rfl, e, _, rfl, hg, ?_⟩
      refine ⟨_, rfl, _, rfl, _, _, rfl, rfl, _, rfl, _, _, rfl, rfl, _, _, rfl, rfl, _, rfl, _, _, rfl, rfl, _, _, rfl, by omega, by omega, by omega, ?_⟩
      exact ⟨_, _, rfl, rfl, Or.inr ⟨by omega, by omega⟩, qq G (Same.refl G)⟩
    · exact ⟨D, _, rfl, SqL.of hD, q _ (s04.trans s5)⟩

end
end RK

namespace RK
open PySem L2
/-! ### dict([(name, f(name)) for name in names]), once for all -/
def kvV (ks : List Str) (f : Str → V) : List (Key × V) := ks.map fun u => ((Sum.inr u : Key), f u)
theorem kvV_int {ks : List Str} {g : Str → Int} : kvV ks (fun z => .int (g z)) = kvOf ks g := rfl
theorem kvV_len {ks : List Str} {f : Str → V} : (kvV ks f).length = ks.length := List.length_map _
theorem kvV_keys {ks : List Str} {f : Str → V} : (kvV ks f).map (·.1) = ks.map fun z => (Sum.inr z : Key) := by
  unfold kvV
  rw [List.map_map]
  rfl
theorem kvV_app {l m : List Str} {f : Str → V} : kvV (l ++ m) f = kvV l f ++ kvV m f := List.map_append
theorem kvV_val {f : Str → V} {z : Str} : ∀ {ks : List Str}, z ∈ ks → valV (kvV ks f) (Sum.inr z : Key) = some (f z)
  | [], h => nomatch h
  | y :: r, h => by
    unfold kvV
    rw [List.map_cons]
    by_cases e : y = z
    · subst e; rw [valV_pos rfl]
    · rw [valV_neg (fun t => e (Sum.inr.inj t))]
      exact kvV_val ((List.mem_cons.mp h).resolve_left fun t => e t.symm)
theorem merge_kvV {ks : List Str} {f : Str → V} (h : ks.Nodup) : mergeK [] (kvV ks f) = kvV ks f := merge_self (by rw [kvV_keys]; exact nodup_keys h)
theorem pairs_snoc {G G2 : Hp} {D U : Addr} {ts : List Addr} {l : List Str} {z : Str} {f : Str → V} (h : Paired (fun (t : Addr) (kv : Key × V) => t ≠ D ∧ G t = some (.tup [kV kv.1, kv.2])) ts (kvV l f)) (s : ∀ b o, b ≠ D → G b = some o → G2 b = some o) (hU : U ≠ D) (e : G2 U = some (.tup [.str z, f z])) :
    Paired (fun (t : Addr) (kv : Key × V) => t ≠ D ∧ G2 t = some (.tup [kV kv.1, kv.2])) (ts ++ [U]) (kvV (l ++ [z]) f) := by
  rw [kvV_app]
  exact Paired.snoc (Paired.mono (fun t kv h => ⟨h.1, s _ _ h.1 h.2⟩) h) ⟨hU, e⟩
theorem st_tup {t : TA} {σ : St} {H : Hp} {Q : VK} (h : t σ H fun xs H1 => xs.length ≤ sizeLine ∧ ∀ p, H1 p = none → Q (.ref p) (upd H1 p (.tup xs))) : tTup t σ H Q := h
section
variable {K : PySem.W.Frag} {n D : Addr} {zs : List Str} {i : Nat} {vs : List Nat} {tv : TE} {σ : St} {H1 : Hp} {Qd : Hp → Prop} {f : Str → V}
theorem dictA_it (hn : H1 n = some (.lst (zs.map V.str))) (hD : H1 D = none) (hl : zs.length ≤ 1000)
    (hw : ∀ x, wipe ((wipe σ vs).set i (some x)) vs = wipe σ vs) (hr : ∀ x H (Q : VK), Q x H → tVar i ((wipe σ vs).set i (some x)) H Q)
    (hv : ∀ z ∈ zs, ∀ G (Q : VK), Same H1 G → (∀ G', Same G G' → Q (f z) G') → tv ((wipe σ vs).set i (some (.str z))) G Q)
    (hd : ∀ G ts, Same H1 G → G D = some (.lst (ts.map V.ref)) → Paired (fun (t : Addr) (kv : Key × V) => G t = some (.tup [kV kv.1, kv.2])) ts (kvV zs f) → Qd G) :
    ∃ W : Nat → Nat → Hp → Prop, (∃ m, W 0 m (upd H1 D (.lst []))) ∧ ∀ j m H, W j m H →
      ((Itl K n).stop j H ∧ Qd H) ∨ ((Itl K n).go j H ∧ ∃ Nx : Hp → Prop, (∀ H', Nx H' → ∃ m', m' < m ∧ W (j + 1) m' H') ∧ ∀ x H', (Itl K n).yld j H x H' → gName i x (wipe σ vs) H' fun σ2 H2 => wipe σ2 vs = wipe σ vs ∧ tYes σ2 H2 fun b H3 =>
        if b = true then tTup (tCons (tVar i) (tCons tv tNil)) σ2 H3 fun y H4 => ∃ acc, H4 D = some (.lst acc) ∧ acc.length < sizeLine ∧ Nx (upd H4 D (.lst (acc ++ [y]))) else Nx H3) := by
  refine lc_it (walk_list (K := K) (a := n) (xs := zs.map V.str)) (fun j G => Same H1 G ∧ ∃ ts : List Addr, G D = some (.lst (ts.map V.ref)) ∧ Paired (fun (t : Addr) (kv : Key × V) => t ≠ D ∧ G t = some (.tup [kV kv.1, kv.2])) ts (kvV (zs.take j) f)) ⟨same_upd hD, [], upd_same, .nil⟩ (fun j G _ p => SqL.of (p.1 _ _ hn)) ?_ ?_
  · rintro j x G1 G2 hj ⟨sm, ts, hacc, hpr⟩ ⟨rfl, hx⟩
    obtain ⟨z, hz, hzm, rfl⟩ := name_at hx
    refine ⟨hw _, tyes ?_⟩
    refine st_tup (st_cons (hr _ _ _ (st_cons ?_)))
    refine hv z hzm _ _ sm fun G3 s3 => st_nil ?_
    refine ⟨by show 2 ≤ sizeLine; decide, fun U hU => ?_⟩
    generalize hE : upd G3 U _ = G4
    have s4 : Same G3 G4 := hE ▸ same_upd hU
    have eU := congrFun hE.symm U
    rw [upd_same] at eU
    clear hE
    have s24 := s3.trans s4
    have hUD : U ≠ D := Ne.symm (ne_of_none (s3 _ _ hacc) hU)
    have htl : ts.length = (zs.take j).length := by rw [Paired.length hpr, kvV_len]
    refine ⟨_, s24 _ _ hacc, ?_, fun b o hb => ?_, ts ++ [U], ?_, ?_⟩
    · rw [List.length_map, htl, List.length_take]
      exact Nat.lt_of_le_of_lt (Nat.le_trans (Nat.min_le_right _ _) hl) (by decide)
    · rw [upd_ne (ne_of_none hb hD)]
      exact s24 _ _ (sm _ _ hb)
    · rw [upd_same, List.map_append]
      rfl
    · rw [take_more hz]
      exact pairs_snoc hpr (fun b o hb e => by rw [upd_ne hb]; exact s24 _ _ e) hUD (by rw [upd_ne hUD]; exact eU)
  · rintro G ⟨sm, ts, hacc, hpr⟩
    rw [List.length_map, List.take_length] at hpr
    exact hd G ts sm hacc (Paired.mono (fun _ _ h => h.2) hpr)
theorem dictE_it {r : Nat} (hn : H1 n = some (.lst (zs.map V.str))) (hnd : zs.Nodup) (hD : H1 D = none) (hl : zs.length ≤ 1000)
    (hw : ∀ x y, wipe (((wipe σ vs).set r (some x)).set i (some y)) vs = wipe σ vs) (hr : ∀ x y H (Q : VK), Q y H → tVar i (((wipe σ vs).set r (some x)).set i (some y)) H Q)
    (hv : ∀ z ∈ zs, ∀ G (Q : VK), Same H1 G → (∀ G', Same G G' → Q (f z) G') → tv (((wipe σ vs).set r (some (.int (zs.idxOf z : Nat)))).set i (some (.str z))) G Q)
    (hd : ∀ G ts, Same H1 G → G D = some (.lst (ts.map V.ref)) → Paired (fun (t : Addr) (kv : Key × V) => G t = some (.tup [kV kv.1, kv.2])) ts (kvV zs f) → Qd G) :
    ∃ W : Nat → Nat → Hp → Prop, (∃ m, W 0 m (upd H1 D (.lst []))) ∧ ∀ j m H, W j m H →
      ((Ite K n).stop j H ∧ Qd H) ∨ ((Ite K n).go j H ∧ ∃ Nx : Hp → Prop, (∀ H', Nx H' → ∃ m', m' < m ∧ W (j + 1) m' H') ∧ ∀ x H', (Ite K n).yld j H x H' → gTup K 2 (gCons (gName r) (gCons (gName i) gNil)) x (wipe σ vs) H' fun σ2 H2 => wipe σ2 vs = wipe σ vs ∧ tYes σ2 H2 fun b H3 =>
        if b = true then tTup (tCons (tVar i) (tCons tv tNil)) σ2 H3 fun y H4 => ∃ acc, H4 D = some (.lst acc) ∧ acc.length < sizeLine ∧ Nx (upd H4 D (.lst (acc ++ [y]))) else Nx H3) := by
  refine lc_it (walk_enum (K := K) (a := n) (xs := zs.map V.str)) (fun j G => Same H1 G ∧ ∃ ts : List Addr, G D = some (.lst (ts.map V.ref)) ∧ Paired (fun (t : Addr) (kv : Key × V) => t ≠ D ∧ G t = some (.tup [kV kv.1, kv.2])) ts (kvV (zs.take j) f)) ⟨same_upd hD, [], upd_same, .nil⟩ (fun j G _ p => SqL.of (p.1 _ _ hn)) ?_ ?_
  · rintro j x G0 G2 hj ⟨sm0, ts, hacc0, hpr0⟩ ⟨T, x1, y, rfl, hT, rfl, hx1, hy⟩
    cases hx1
    replace hy : (zs.map V.str)[j]? = some y := hy
    obtain ⟨z, hz, hzm, rfl⟩ := name_at hy
    have hjz : j < zs.length := (List.getElem?_eq_some_iff.mp hz).1
    have hix : zs.idxOf z = j := by
      have e := (List.getElem?_eq_some_iff.mp hz).2
      rw [← e]
      exact hnd.idxOf_getElem j hjz
    generalize hE : upd G0 T _ = G1
    have sT : Same G0 G1 := hE ▸ same_upd hT
    have eT := congrFun hE.symm T
    rw [upd_same] at eT
    clear hE
    have sm := sm0.trans sT
    have hacc := sT _ _ hacc0
    have hpr := Paired.mono (fun (t : Addr) (kv : Key × V) (h : t ≠ D ∧ G0 t = some (.tup [kV kv.1, kv.2])) => (⟨h.1, sT _ _ h.2⟩ : t ≠ D ∧ G1 t = some (.tup [kV kv.1, kv.2]))) hpr0
    refine ⟨T, _, rfl, SqT.of eT, rfl, _, _, rfl, _, _, rfl, rfl, hw _ _, tyes ?_⟩
    have hv' := hv z hzm
    rw [hix] at hv'
    refine st_tup (st_cons (hr _ _ _ _ (st_cons ?_)))
    refine hv' _ _ sm fun G3 s3 => st_nil ?_
    refine ⟨by show 2 ≤ sizeLine; decide, fun U hU => ?_⟩
    generalize hE : upd G3 U _ = G4
    have s4 : Same G3 G4 := hE ▸ same_upd hU
    have eU := congrFun hE.symm U
    rw [upd_same] at eU
    clear hE
    have s24 := s3.trans s4
    have hUD : U ≠ D := Ne.symm (ne_of_none (s3 _ _ hacc) hU)
    have htl : ts.length = (zs.take j).length := by rw [Paired.length hpr, kvV_len]
    refine ⟨_, s24 _ _ hacc, ?_, fun b o hb => ?_, ts ++ [U], ?_, ?_⟩
    · rw [List.length_map, htl, List.length_take]
      exact Nat.lt_of_le_of_lt (Nat.le_trans (Nat.min_le_right _ _) hl) (by decide)
    · rw [upd_ne (ne_of_none hb hD)]
      exact s24 _ _ (sm _ _ hb)
    · rw [upd_same, List.map_append]
      rfl
    · rw [take_more hz]
      exact pairs_snoc hpr (fun b o hb e => by rw [upd_ne hb]; exact s24 _ _ e) hUD (by rw [upd_ne hUD]; exact eU)
  · rintro G ⟨sm, ts, hacc, hpr⟩
    rw [List.length_map, List.take_length] at hpr
    exact hd G ts sm hacc (Paired.mono (fun _ _ h => h.2) hpr)
end
end RK

namespace RK
open PySem L2
/-! ### a dict as it may be passed -/
def spHandK : Sp := fun vs H Q _ => ∃ (a d : Addr) (ks : List Str) (g : Str → Int) (m : Nat), vs = [.ref a, .ref d] ∧ a ≠ d ∧ SpAt H a m ∧ m < 1000000000 ∧ H d = some (.dK (kvOf ks g)) ∧ ks.Nodup ∧ ks.length ≤ 1000 ∧ (∀ z ∈ ks, PyData.strOk z = true) ∧
  ∀ e ks' H', H e = none → H' e = some (.dK (kvOf ks' g)) → ks'.Perm ks → e ≠ a → SpAt H' a (m + 1000) → But a H H' → Q (.ref e) H'
section
variable {P : Program} {w : World} {K : PySem.W.Frag} {mg : Str → Option Value} {base : Heap}
end
end RK

namespace RK
open PySem L2
/-! ### things that are no path, some of the names -/
/-- of some kind, and like itself -/
def OwnV (K : PySem.W.Frag) (H : Hp) (v : V) : Prop := (∃ k, Th K H v k) ∧ SameD H 6 v v
theorem OwnV.same {K : PySem.W.Frag} {H H' : Hp} {v : V} (h : OwnV K H v) (s : Same H H') : OwnV K H' v := ⟨let ⟨k, e⟩ := h.1; ⟨k, e.same s⟩, h.2.mono s⟩
def spNoPa (K : PySem.W.Frag) : Sp := fun vs H Q _ => ∃ (n : Addr) (zs : List Str), vs = [.ref n] ∧ H n = some (.lst (zs.map V.str)) ∧ zs.Nodup ∧ zs.length ≤ 1000 ∧ (∀ z ∈ zs, z.length ≤ 1000) ∧
  ∀ l us H', H l = none → H' l = some (.lst us) → us.length ≤ 20 → (∀ v ∈ us, OwnV K H' v) → Same H H' → Q (.ref l) H'
def spSome (K : PySem.W.Frag) : Sp := fun vs H Q _ => ∃ (a n : Addr) (zs : List Str) (m : Nat), vs = [.ref a, .ref n] ∧ a ≠ n ∧ SpAt H a m ∧ m < 1000000000 ∧ H n = some (.lst (zs.map V.str)) ∧ zs.Nodup ∧ 2 ≤ zs.length ∧ zs.length ≤ 1000 ∧ (∀ z ∈ zs, PyData.strOk z = true) ∧
  ∀ r (row : List Str) H', H r = none → H' r = some (.lst (row.map V.str)) → row.Nodup → (∀ z ∈ row, z ∈ zs) → 2 ≤ row.length → SpAt H' a (m + 1001) → But a H H' → Q (.ref r) H'
theorem SameD.up {H : Hp} : ∀ {n : Nat} {x y : V}, SameD H n x y → ∀ k, SameD H (n + k) x y
  | _, _, _, .non, _ => .non
  | _, _, _, .int i, _ => .int i
  | _, _, _, .bl b, _ => .bl b
  | _, _, _, .str h, _ => .str h
  | _, _, _, @SameD.lst _ n a b xs ys ha hb hl h1 h, k => by
    rw [Nat.add_right_comm]
    exact .lst ha hb hl h1 fun i x y e1 e2 => SameD.up (h i x y e1 e2) k
  | _, _, _, @SameD.tup _ n a b xs ys ha hb hl h1 h, k => by
    rw [Nat.add_right_comm]
    exact .tup ha hb hl h1 fun i x y e1 e2 => SameD.up (h i x y e1 e2) k
  | _, _, _, @SameD.dict _ n a b ks ls ha hb hl h1 hk h, k => by
    rw [Nat.add_right_comm]
    exact .dict ha hb hl h1 hk fun i p q e1 e2 => SameD.up (h i p q e1 e2) k
theorem SameD.le {H : Hp} {m n : Nat} {x y : V} (h : SameD H m x y) (e : m ≤ n) : SameD H n x y := by
  obtain ⟨k, rfl⟩ := Nat.le.dest e
  exact h.up k
theorem same_kv {G : Hp} {a b : Addr} {zs : List Str} {g : Str → Int} (ha : G a = some (.dK (kvOf zs g))) (hb : G b = some (.dK (kvOf zs g))) (hl : zs.length ≤ 1000) (hz : ∀ z ∈ zs, z.length ≤ 1000) : SameD G 3 (.ref a) (.ref b) := by
  refine .dict (n := 0) ha hb rfl (by unfold kvOf; rw [List.length_map]; exact hl) (fun i p q e1 e2 => ?_) fun i p q e1 e2 => ?_
  · rw [e1] at e2; cases e2
    refine ⟨rfl, ?_⟩
    unfold kvOf at e1
    obtain ⟨x, hx, rfl⟩ := List.mem_map.mp (List.mem_of_getElem? e1)
    exact hz _ hx
  · rw [e1] at e2; cases e2
    unfold kvOf at e1
    obtain ⟨x, hx, rfl⟩ := List.mem_map.mp (List.mem_of_getElem? e1)
    exact .int _
theorem same_strT {G : Hp} {a b : Addr} {l : List Str} {n : Nat} (ha : G a = some (.tup (l.map V.str))) (hb : G b = some (.tup (l.map V.str))) (hl : l.length ≤ 1000) (hz : ∀ z ∈ l, z.length ≤ 1000) : SameD G (n + 1) (.ref a) (.ref b) :=
  .tup ha hb rfl (by rw [List.length_map]; exact hl) fun i x y e1 e2 => by
    rw [e1] at e2
    cases e2
    obtain ⟨z, hz', rfl⟩ := List.mem_map.mp (List.mem_of_getElem? e1)
    exact .str (hz z hz')
section
variable {P : Program} {w : World} {K : PySem.W.Frag} {mg : Str → Option Value} {base : Heap}
end
end RK

namespace RK
open PySem L2
/-! ### things that are refused -/
/-- something that is of some kind, is like itself, and where it is a dict, P of it -/
def BadV (K : PySem.W.Frag) (Pd : List (Key × V) → Prop) (H : Hp) (v : V) : Prop := ∃ k, Th K H v k ∧ SameD H 6 v v ∧ (k.isDict = true → ∃ dd kvs, v = .ref dd ∧ H dd = some (.dK kvs) ∧ (∀ kv ∈ kvs, ∃ kx, Th K H kv.2 kx) ∧ Pd kvs)
theorem BadV.mono {K : PySem.W.Frag} {Pd : List (Key × V) → Prop} {H H' : Hp} {v : V} (h : BadV K Pd H v) (s : Same H H') : BadV K Pd H' v := by
  obtain ⟨k, h1, h2, h3⟩ := h
  refine ⟨k, h1.same s, h2.mono s, fun hk => ?_⟩
  obtain ⟨dd, kvs, e1, e2, e3, e4⟩ := h3 hk
  exact ⟨dd, kvs, e1, s _ _ e2, fun kv hm => let ⟨kx, e⟩ := e3 kv hm; ⟨kx, e.same s⟩, e4⟩
theorem BadV.non {K : PySem.W.Frag} {Pd : List (Key × V) → Prop} {H : Hp} : BadV K Pd H .non := ⟨_, .non, .non, fun z => nomatch z⟩
theorem BadV.int {K : PySem.W.Frag} {Pd : List (Key × V) → Prop} {H : Hp} {i : Int} : BadV K Pd H (.int i) := ⟨_, .int i, .int i, fun z => nomatch z⟩
theorem BadV.bl {K : PySem.W.Frag} {Pd : List (Key × V) → Prop} {H : Hp} {b : Bool} : BadV K Pd H (.bl b) := ⟨_, .bl b, .bl b, fun z => nomatch z⟩
theorem BadV.str {K : PySem.W.Frag} {Pd : List (Key × V) → Prop} {H : Hp} {z : Str} (h : z.length ≤ 1000) : BadV K Pd H (.str z) := ⟨_, .str h, .str h, fun z => nomatch z⟩
/-- the kinds of values in such dicts -/
inductive ValQ (H : Hp) : V → Prop where
  | non : ValQ H .non
  | int (i : Int) : ValQ H (.int i)
  | bl (b : Bool) : ValQ H (.bl b)
  | str {z : Str} (h : z.length ≤ 1000) : ValQ H (.str z)
  | lst {a : Addr} {i : Int} (e : H a = some (.lst [.int i])) : ValQ H (.ref a)
  | dic {a : Addr} (e : H a = some (.dK [])) : ValQ H (.ref a)
theorem ValQ.mono {H H' : Hp} {v : V} (h : ValQ H v) (s : Same H H') : ValQ H' v := by
  cases h with
  | non => exact .non
  | int i => exact .int i
  | bl b => exact .bl b
  | str h => exact .str h
  | lst e => exact .lst (s _ _ e)
  | dic e => exact .dic (s _ _ e)
theorem ValQ.th {K : PySem.W.Frag} {H : Hp} {v : V} (h : ValQ H v) : ∃ k, Th K H v k := by
  cases h with
  | non => exact ⟨_, .non⟩
  | int i => exact ⟨_, .int i⟩
  | bl b => exact ⟨_, .bl b⟩
  | str h => exact ⟨_, .str h⟩
  | lst e => exact ⟨_, .lst e⟩
  | dic e => exact ⟨_, .dict e⟩
theorem ValQ.same {H : Hp} {v : V} (h : ValQ H v) : SameD H 3 v v := by
  cases h with
  | non => exact .non
  | int i => exact .int i
  | bl b => exact .bl b
  | str h => exact .str h
  | lst e =>
    refine SameD.lst (n := 2) e e rfl (by show 1 ≤ 1000; decide) fun j x y e1 e2 => ?_
    match j, e1, e2 with
    | 0, e1, e2 => cases e1; cases e2; exact .int _
  | dic e => exact SameD.dict (n := 0) e e rfl (by decide) (fun i p q e1 => by simp at e1) fun i p q e1 => by simp at e1
theorem BadV.lst {K : PySem.W.Frag} {Pd : List (Key × V) → Prop} {H : Hp} {a : Addr} (e : H a = some (.lst [])) : BadV K Pd H (.ref a) := ⟨_, .lst e, SameD.lst (n := 5) e e rfl (by decide) (fun i x y e1 => by simp at e1), fun z => nomatch z⟩
theorem BadV.lst1 {K : PySem.W.Frag} {Pd : List (Key × V) → Prop} {H : Hp} {a : Addr} {i : Int} (e : H a = some (.lst [.int i])) : BadV K Pd H (.ref a) := ⟨_, .lst e, (ValQ.same (.lst e)).up 3, fun z => nomatch z⟩
theorem BadV.dct {K : PySem.W.Frag} {Pd : List (Key × V) → Prop} {H : Hp} {a : Addr} {kvs : List (Key × V)} (e : H a = some (.dK kvs)) (hl : kvs.length ≤ 1000) (hk : ∀ kv ∈ kvs, keyOk kv.1 ∧ ValQ H kv.2) (hp : Pd kvs) : BadV K Pd H (.ref a) := by
  refine ⟨_, .dict e, SameD.dict (n := 3) e e rfl hl (fun i p q e1 e2 => ?_) fun i p q e1 e2 => ?_, fun _ => ⟨a, kvs, rfl, e, fun kv hm => (hk kv hm).2.th, hp⟩⟩
  · rw [e1] at e2; cases e2
    exact ⟨rfl, (hk p (List.mem_of_getElem? e1)).1⟩
  · rw [e1] at e2; cases e2
    exact (hk p (List.mem_of_getElem? e1)).2.same
/-- a list of pairs of names and numbers -/
theorem BadV.pairs {K : PySem.W.Frag} {Pd : List (Key × V) → Prop} {H : Hp} {a : Addr} {ts : List Addr} {kvs : List (Key × V)} (e : H a = some (.lst (ts.map V.ref))) (hp : Paired (fun (t : Addr) (kv : Key × V) => H t = some (.tup [kV kv.1, kv.2])) ts kvs) (hl : kvs.length ≤ 1000) (hk : ∀ kv ∈ kvs, (∃ z : Str, kv.1 = Sum.inr z ∧ z.length ≤ 1000) ∧ ∃ i, kv.2 = .int i) : BadV K Pd H (.ref a) := by
  refine ⟨_, .lst e, SameD.lst (n := 5) e e rfl (by rw [List.length_map, Paired.length hp]; exact hl) fun i x y e1 e2 => ?_, fun z => nomatch z⟩
  rw [e1] at e2; cases e2
  obtain ⟨t, ht, rfl⟩ := get_map e1
  obtain ⟨kv, hkv, ht2⟩ := paired_get hp ht
  obtain ⟨⟨z, e3, h3⟩, j, e4⟩ := hk kv (List.mem_of_getElem? hkv)
  rw [e3, e4] at ht2
  refine SameD.tup (n := 4) ht2 ht2 rfl (by show 2 ≤ 1000; decide) fun i x y q1 q2 => ?_
  match i, q1, q2 with
  | 0, rfl, rfl => exact .str h3
  | 1, rfl, rfl => exact .int j
theorem no_len {zs : List Str} {kvs : List (Key × V)} (h : kvs.length ≠ zs.length) : dictB zs kvs = false := by
  unfold dictB
  rw [decide_eq_false h]
  rfl
theorem no_stand {zs : List Str} {kvs : List (Key × V)} (h : dictB zs kvs = false) : standB zs kvs = false := by
  unfold standB
  rw [h]
  rfl
theorem no_int {zs : List Str} {kvs : List (Key × V)} {z : Str} {v : V} (hz : z ∈ zs) (hv : valV kvs (Sum.inr z : Key) = some v) (hi : intB v = false) : dictB zs kvs = false := by
  cases h : dictB zs kvs with
  | false => rfl
  | true =>
    unfold dictB at h
    have q := List.all_eq_true.mp (Bool.and_eq_true_iff.mp h).2 z hz
    rw [hv] at q
    exact absurd (hi.symm.trans q) Bool.false_ne_true
theorem places_kv {zs : List Str} {g : Str → Int} : placesOf zs (kvOf zs g) = zs.map g := List.map_congr_left fun z hz => place_kv hz
theorem no_sum {zs : List Str} {g : Str → Int} (h : (zs.map g).sum ≠ (zs.length : Int) * ((zs.length : Int) - 1) / 2) : standB zs (kvOf zs g) = false := by
  unfold standB
  rw [places_kv, decide_eq_false h, Bool.false_and, Bool.and_false]
theorem no_rests {zs : List Str} {g : Str → Int} {x y : Str} (hx : x ∈ zs) (hy : y ∈ zs) (ne : x ≠ y) (h : g x % (zs.length : Int) = g y % (zs.length : Int)) : standB zs (kvOf zs g) = false := by
  cases q : standB zs (kvOf zs g) with
  | false => rfl
  | true => exact absurd (rest_inj q hx hy (by rw [place_kv hx, place_kv hy]; exact h)) ne
theorem sum_put {zs : List Str} {g : Str → Int} {z : Str} {c : Int} (nd : zs.Nodup) (hz : z ∈ zs) : (zs.map fun u => if u = z then c else g u).sum = (zs.map g).sum + (c - g z) := by
  have e : (zs.map fun u => if u = z then c else g u) = zs.map fun u => g u + if u = z then c - g z else 0 := List.map_congr_left fun u _ => by
    split
    · rename_i h; rw [h]; omega
    · omega
  rw [e, sum_add, sum_one nd, if_pos hz]
theorem bad_more {K : PySem.W.Frag} {Pd : List (Key × V) → Prop} {G G' : Hp} {F : Addr} {os : List V} {v : V} (h : ∀ u ∈ os, BadV K Pd (no G F) u) (b : But F G G') (hv : BadV K Pd (no G' F) v) :
    ∀ u ∈ os ++ [v], BadV K Pd (no (upd G' F (.lst (os ++ [v]))) F) u := fun u hu => by
  have e : Same (no G' F) (no (upd G' F (.lst (os ++ [v]))) F) := no_but But.upd
  rcases List.mem_append.mp hu with m | m
  · exact ((h u m).mono (no_but b)).mono e
  · rw [List.mem_singleton.mp m]; exact hv.mono e
theorem no_at {G : Hp} {F b : Addr} {o : HO} (h : G b = some o) (hb : b ≠ F) : (no G F) b = some o := by rw [no_ne hb]; exact h
theorem ValQ.no {G : Hp} {F : Addr} {v : V} (h : ValQ G v) (hF : ∃ xs : List V, G F = some (.lst xs) ∧ xs ≠ [] ∧ ∀ i, xs ≠ [V.int i]) : ValQ (no G F) v := by
  obtain ⟨xs, hF, h1, h2⟩ := hF
  cases h with
  | non => exact .non
  | int i => exact .int i
  | bl b => exact .bl b
  | str h => exact .str h
  | lst e => exact .lst (no_at e fun z => by rw [z, hF] at e; cases e; exact h2 _ rfl)
  | dic e => exact .dic (no_at e fun z => by rw [z, hF] at e; cases e)
theorem kv_ok {zs : List Str} {f : Str → V} {H : Hp} (hz : ∀ z ∈ zs, z.length ≤ 1000) (hf : ∀ z ∈ zs, ValQ H (f z)) : ∀ kv ∈ kvV zs f, keyOk kv.1 ∧ ValQ H kv.2 := fun kv hm => by
  unfold kvV at hm
  obtain ⟨z, h, rfl⟩ := List.mem_map.mp hm
  exact ⟨hz z h, hf z h⟩
end RK

namespace RK
open PySem L2
/-! ### mathematics: the one who lacks -/
def cnt (L : List Int) (v : Int) : Nat := L.countP fun x => decide (x ≤ v)
theorem cnt_perm {L M : List Int} (h : L.Perm M) (v : Int) : cnt L v = cnt M v := h.countP_eq _
theorem cnt_mono {L : List Int} {v u : Int} (h : v ≤ u) : cnt L v ≤ cnt L u :=
  List.countP_mono_left fun x _ e => decide_eq_true (Int.le_trans (of_decide_eq_true e) h)
theorem cnt_le {L : List Int} {v : Int} : cnt L v ≤ L.length := List.countP_le_length
theorem cnt_cons {L : List Int} {y v : Int} : cnt (y :: L) v = cnt L v + if y ≤ v then 1 else 0 := by
  unfold cnt
  rw [List.countP_cons]
  by_cases h : y ≤ v
  · rw [if_pos h, if_pos (decide_eq_true h)]
  · rw [if_neg h, if_neg (by rw [decide_eq_false h]; exact Bool.false_ne_true)]
theorem sorted_cnt {v : Int} : ∀ {L : List Int} {t : Nat} {x : Int}, L.Pairwise (· ≤ ·) → L[t]? = some x → (x ≤ v ↔ t < cnt L v)
  | [], _, _, _, h => by simp at h
  | y :: r, 0, x, hs, h => by
    cases (show some y = some x from h)
    rw [cnt_cons]
    by_cases hv : y ≤ v
    · rw [if_pos hv]
      exact ⟨fun _ => by omega, fun _ => hv⟩
    · rw [if_neg hv]
      have h0 : cnt r v = 0 := by
        unfold cnt
        rw [List.countP_eq_zero]
        intro z hz e
        exact hv (Int.le_trans ((List.pairwise_cons.mp hs).1 z hz) (of_decide_eq_true e))
      rw [h0]
      exact ⟨fun h => absurd h hv, fun h => by omega⟩
  | y :: r, t + 1, x, hs, h => by
    have hx : r[t]? = some x := h
    have ih := sorted_cnt (v := v) (List.pairwise_cons.mp hs).2 hx
    rw [cnt_cons]
    have hyx : y ≤ x := (List.pairwise_cons.mp hs).1 x (List.mem_of_getElem? hx)
    constructor
    · intro hv
      rw [if_pos (Int.le_trans hyx hv)]
      have := ih.mp hv
      omega
    · intro hlt
      by_cases hv : y ≤ v
      · rw [if_pos hv] at hlt
        exact ih.mpr (by omega)
      · rw [if_neg hv] at hlt
        exact ih.mpr (by omega)
theorem fault_iff {L : List Int} {k : Int} (hs : L.Pairwise (· ≤ ·)) : faultI L k = none ↔ ∀ t : Nat, t < L.length → t < cnt L ((t : Int) * k) := by
  constructor
  · intro h t ht
    unfold faultI at h
    rw [List.find?_eq_none] at h
    have ex := List.getElem?_eq_getElem ht
    have : ¬ L[t] > (t : Int) * k := fun z => h (L[t], t) (List.mk_mem_zipIdx_iff_getElem?.mpr ex) (decide_eq_true z)
    exact (sorted_cnt hs ex).mp (by omega)
  · intro h
    refine find_none_of fun i x hx hgt => ?_
    have hi := (List.getElem?_eq_some_iff.mp hx).1
    have := (sorted_cnt hs hx).mpr (h i hi)
    omega
theorem mul_mono' {a b : Nat} {k : Int} (hk : 1 ≤ k) (h : a ≤ b) : (a : Int) * k ≤ (b : Int) * k := Int.mul_le_mul_of_nonneg_right (by omega) (by omega)
/-- where the first too great one stands -/
theorem lack_at (L : List Int) (k : Int) (hs : L.Pairwise (· ≤ ·)) : ∃ j : Nat, j ≤ L.length ∧ (∀ t : Nat, t < j → t < cnt L ((t : Int) * k)) ∧ (j < L.length → cnt L ((j : Int) * k) ≤ j) ∧
    (match L.zipIdx.find? fun p => decide (p.1 > (p.2 : Int) * k) with
      | some p => (p.2 : Int)
      | none => (L.length : Int)) = (j : Int) := by
  cases hf : L.zipIdx.find? fun p => decide (p.1 > (p.2 : Int) * k) with
  | none =>
    exact ⟨L.length, Nat.le_refl _, (fault_iff hs).mp hf, fun h => absurd h (Nat.lt_irrefl _), rfl⟩
  | some p =>
    obtain ⟨hp, i, hi, ei, hb⟩ := List.find?_eq_some_iff_getElem.mp hf
    have hil : i < L.length := by rw [List.length_zipIdx] at hi; exact hi
    have e2 : p = (L[i], i) := by
      rw [← ei, List.getElem_zipIdx, Nat.zero_add]
    subst e2
    refine ⟨i, Nat.le_of_lt hil, fun t ht => ?_, fun _ => ?_, rfl⟩
    · have htl : t < L.length := by omega
      have := hb t ht
      rw [List.getElem_zipIdx, Nat.zero_add] at this
      have h1 : ¬ L[t] > (t : Int) * k := fun z => by rw [decide_eq_true z] at this; cases this
      exact (sorted_cnt hs (List.getElem?_eq_getElem htl)).mp (by omega)
    · have h1 : L[i] > (i : Int) * k := of_decide_eq_true hp
      have h2 := sorted_cnt (v := (i : Int) * k) hs (List.getElem?_eq_getElem hil)
      exact Nat.le_of_not_lt fun z => by have := h2.mpr z; omega
theorem lack_any {L : List Int} {k : Int} (hs : L.Pairwise (· ≤ ·)) : (L.zipIdx.any fun p => decide (p.1 > ((p.2 : Int) + 1) * k)) = false ↔ ∀ t : Nat, t < L.length → t < cnt L (((t + 1 : Nat) : Int) * k) := by
  rw [List.any_eq_false]
  constructor
  · intro h t ht
    have ex := List.getElem?_eq_getElem ht
    have := h (L[t], t) (List.mk_mem_zipIdx_iff_getElem?.mpr ex)
    rw [decide_eq_true_iff] at this
    refine (sorted_cnt hs ex).mp ?_
    rw [show ((t + 1 : Nat) : Int) = (t : Int) + 1 by omega]
    exact Int.not_lt.mp this
  · rintro h ⟨x, i⟩ hm
    have hx := List.mk_mem_zipIdx_iff_getElem?.mp hm
    have hi := (List.getElem?_eq_some_iff.mp hx).1
    have := (sorted_cnt hs hx).mpr (h i hi)
    rw [show ((i + 1 : Nat) : Int) = (i : Int) + 1 by omega] at this
    rw [decide_eq_true_iff]
    exact Int.not_lt.mpr this
theorem lack_iff {xs L M : List Int} {y k : Int} (hk : 1 ≤ k) (hL : L.Perm xs) (sL : L.Pairwise (· ≤ ·)) (hM : M.Perm (y :: xs)) (sM : M.Pairwise (· ≤ ·)) : faultI M k = none ↔ ∃ m, lackI L k = some m ∧ y ≤ m := by
  have hMl : M.length = L.length + 1 := by rw [hM.length_eq, List.length_cons, hL.length_eq]
  have ec : ∀ v, cnt M v = cnt L v + if y ≤ v then 1 else 0 := fun v => by rw [cnt_perm hM, cnt_cons, cnt_perm hL]
  obtain ⟨j, hj, hb, ha, ev⟩ := lack_at L k sL
  rw [fault_iff sM]
  have el : lackI L k = if (L.zipIdx.any fun p => decide (p.1 > ((p.2 : Int) + 1) * k)) = true then none else some (k * (j : Int)) := by
    rw [← ev]
    rfl
  constructor
  · intro h
    have hn : (L.zipIdx.any fun p => decide (p.1 > ((p.2 : Int) + 1) * k)) = false := by
      rw [lack_any sL]
      intro t ht
      have := h (t + 1) (by omega)
      rw [ec] at this
      split at this <;> omega
    refine ⟨k * (j : Int), by rw [el, if_neg (by rw [hn]; exact Bool.false_ne_true)], ?_⟩
    have hjj := h j (by omega)
    rw [ec] at hjj
    have hcj : cnt L ((j : Int) * k) ≤ j := by
      by_cases hlt : j < L.length
      · exact ha hlt
      · exact Nat.le_trans cnt_le (by omega)
    rw [Int.mul_comm]
    by_cases hy : y ≤ (j : Int) * k
    · exact hy
    · rw [if_neg hy] at hjj
      omega
  · rintro ⟨m, hm, hy⟩ t ht
    cases hn : L.zipIdx.any fun p => decide (p.1 > ((p.2 : Int) + 1) * k) with
    | true =>
      rw [el, if_pos hn] at hm
      cases hm
    | false =>
      rw [el, if_neg (by rw [hn]; exact Bool.false_ne_true)] at hm
      cases hm
      rw [ec]
      by_cases htj : t < j
      · have := hb t htj
        omega
      · have h1 : y ≤ (t : Int) * k := by
          rw [Int.mul_comm] at hy
          exact Int.le_trans hy (mul_mono' hk (by omega))
        rw [if_pos h1]
        cases t with
        | zero => omega
        | succ t =>
          have := (lack_any sL).mp hn t (by omega)
          omega
theorem lack_val {L : List Int} {k m : Int} (hk : 1 ≤ k) (sL : L.Pairwise (· ≤ ·)) (h : lackI L k = some m) : 0 ≤ m ∧ m ≤ k * (L.length : Int) := by
  obtain ⟨j, hj, hb, ha, ev⟩ := lack_at L k sL
  have el : lackI L k = if (L.zipIdx.any fun p => decide (p.1 > ((p.2 : Int) + 1) * k)) = true then none else some (k * (j : Int)) := by
    rw [← ev]
    rfl
  rw [el] at h
  split at h
  · cases h
  · cases h
    exact ⟨Int.mul_nonneg (by omega) (by omega), Int.mul_le_mul_of_nonneg_left (by omega) (by omega)⟩
theorem lack_zero {L : List Int} {k m : Int} (hk : 1 ≤ k) (sL : L.Pairwise (· ≤ ·)) (h0 : 0 < L.length) (hx : ∀ x ∈ L, k ≤ x) (h : lackI L k = some m) : m = 0 := by
  obtain ⟨j, hj, hb, ha, ev⟩ := lack_at L k sL
  have el : lackI L k = if (L.zipIdx.any fun p => decide (p.1 > ((p.2 : Int) + 1) * k)) = true then none else some (k * (j : Int)) := by
    rw [← ev]
    rfl
  rw [el] at h
  split at h
  · cases h
  · cases h
    cases j with
    | zero => exact Int.mul_zero k
    | succ j =>
      have := hb 0 (by omega)
      have h1 := (sorted_cnt (v := ((0 : Nat) : Int) * k) sL (List.getElem?_eq_getElem h0)).mpr this
      have h2 := hx _ (List.getElem_mem h0)
      omega
end RK

/-! list(zip(xs, ys)) of two lists -/
namespace ZiL
open PySem PySem.Spec PyProof.Rows PySem.W PySem.Calls
theorem nolen_zip : typeLookup (.type "zip") "__len__" = pure none := by rw [typeLookup_type, builtinLookup_eq_fast]; kernel_rfl
theorem nohint_zip : typeLookup (.type "zip") "__length_hint__" = pure none := by rw [typeLookup_type, builtinLookup_eq_fast]; kernel_rfl
/-- the zip as it stands ahead of its i-th turn, while a tuple that it gave may still be out -/
def ZSt (z TI TO i1 i2 l1 l2 S : Addr) (xs ys : Array Value) (i : Nat) (h : Heap) : Prop :=
  IsPair h TI (.ref i1) (.ref i2) ∧ h.IsListIter i1 l1 i ∧ h.IsListIter i2 l2 i ∧ h.IsList l1 xs ∧ h.IsList l2 ys ∧
    ((IsZip h z TI TO .none ∧ ∃ a b, IsPair h TO a b) ∨ ∃ T f oT, IsZipHeld h z TI TO T f ∧ h.get? T = some oT ∧ T ≠ z ∧ T ≠ i1 ∧ T ≠ i2 ∧ T ≠ S)
structure ZLow (z TI TO i1 i2 l1 l2 S : Addr) : Prop where
  z : z < S
  TI : TI < S
  TO : TO < S
  i1 : i1 < S
  i2 : i2 < S
  l1 : l1 < S
  l2 : l2 < S
section
variable {prog : Program} {w : World} {A : Around} {E : Value → Shared → Prop} {s : Shared} {z TI TO i1 i2 l1 l2 S : Addr} {xs ys : Array Value}
theorem ZSt.keep {i : Nat} {h h' : Heap} (x : ZSt z TI TO i1 i2 l1 l2 S xs ys i h) (L : ZLow z TI TO i1 i2 l1 l2 S) (hk : ∀ b o, b ≠ S → h.get? b = some o → h'.get? b = some o) : ZSt z TI TO i1 i2 l1 l2 S xs ys i h' := by
  obtain ⟨hTI, h1, h2, hl1, hl2, hz⟩ := x
  refine ⟨hk _ _ (Nat.ne_of_lt L.TI) hTI, h1.at fun o e => hk _ o (Nat.ne_of_lt L.i1) e, h2.at fun o e => hk _ o (Nat.ne_of_lt L.i2) e, hl1.at fun o e => hk _ o (Nat.ne_of_lt L.l1) e, hl2.at fun o e => hk _ o (Nat.ne_of_lt L.l2) e, ?_⟩
  rcases hz with ⟨hz, a, b, hTO⟩ | ⟨T, f, oT, hz, hT, r1, r2, r3, r4⟩
  · exact .inl ⟨hk _ _ (Nat.ne_of_lt L.z) hz, a, b, hk _ _ (Nat.ne_of_lt L.TO) hTO⟩
  · exact .inr ⟨T, f, oT, hk _ _ (Nat.ne_of_lt L.z) hz, hk _ _ r4 hT, r1, r2, r3, r4⟩
theorem z_item {i : Nat} {x y : Value} {Q : Option Value → Shared → Prop} (D : ZipApart z TI TO i1 i2 l1 l2) (hS : S < s.heap.objs.size) (st : ZSt z TI TO i1 i2 l1 l2 S xs ys i s.heap) (ex : xs[i]? = some x) (ey : ys[i]? = some y)
    (hQ : ∀ h', ZSt z TI TO i1 i2 l1 l2 S xs ys (i + 1) h' → h'.get? s.heap.objs.size = some { cls := .type "tuple", data := .seq #[x, y] } → h'.objs.size = s.heap.objs.size + 1 →
      (∀ c o, c ≠ z → c ≠ TO → c ≠ i1 → c ≠ i2 → s.heap.get? c = some o → h'.get? c = some o) → Q (some (.ref s.heap.objs.size)) { s with heap := h' }) :
    wpAny (model prog w) A (pyNext (.ref z)) Q E s := by
  obtain ⟨hTI, h1, h2, hl1, hl2, hz⟩ := st
  have lt : ∀ {c o}, s.heap.get? c = some o → s.heap.objs.size ≠ c := fun e => Nat.ne_of_gt (Heap.lt_size e)
  have n1 : s.heap.objs.size ≠ i1 := let ⟨_, e, _⟩ := h1; lt e
  have n2 : s.heap.objs.size ≠ i2 := let ⟨_, e, _⟩ := h2; lt e
  rcases hz with ⟨hz, a, b, hTO⟩ | ⟨T, f, oT, hz, hT, r1, r2, r3, r4⟩
  · refine wpAny_pyNext_zip_item D hz hTI hTO h1 h2 hl1 hl2 ex ey fun h' a1 a2 a3 a4 a5 a6 hk => ?_
    exact hQ h' ⟨hk _ _ D.TIz D.TITO D.TIi1 D.TIi2 hTI, a3, a4, hl1.at fun o e => hk _ o D.l1z D.l1TO D.l1i1 D.l1i2 e, hl2.at fun o e => hk _ o D.l2z D.l2TO D.l2i1 D.l2i2 e,
      .inr ⟨s.heap.objs.size, false, _, a1, a5, lt hz, n1, n2, Nat.ne_of_gt hS⟩⟩ a5 a6 hk
  · refine wpAny_pyNext_zip_item_held D hz hT hTI h1 h2 hl1 hl2 ex ey fun h' a1 a3 a4 a5 a6 hk => ?_
    exact hQ h' ⟨hk _ _ D.TIz D.TIi1 D.TIi2 hTI, a3, a4, hl1.at fun o e => hk _ o D.l1z D.l1i1 D.l1i2 e, hl2.at fun o e => hk _ o D.l2z D.l2i1 D.l2i2 e,
      .inr ⟨T, true, oT, a1, hk _ _ r1 r2 r3 hT, r1, r2, r3, r4⟩⟩ a5 a6 fun c o c1 _ c3 c4 e => hk c o c1 c3 c4 e
theorem z_done {i : Nat} {Q : Option Value → Shared → Prop} (hh : A.handled = none) (D : ZipApart z TI TO i1 i2 l1 l2) (st : ZSt z TI TO i1 i2 l1 l2 S xs ys i s.heap) (hend : xs[i]? = none ∨ ys[i]? = none)
    (hQ : ∀ h', (∀ c o, c ≠ z → c ≠ TO → c ≠ i1 → c ≠ i2 → s.heap.get? c = some o → h'.get? c = some o) → Q none { s with heap := h' }) : wpAny (model prog w) A (pyNext (.ref z)) Q E s := by
  obtain ⟨hTI, h1, h2, hl1, hl2, hz⟩ := st
  rcases hz with ⟨hz, a, b, hTO⟩ | ⟨T, f, oT, hz, hT, r1, r2, r3, r4⟩
  · exact wpAny_pyNext_zip_end hh D hz hTI hTO h1 h2 hl1 hl2 hend fun h' hk => hQ h' hk
  · exact wpAny_pyNext_zip_end_held hh D hz hT hTI h1 h2 hl1 hl2 hend fun h' hk => hQ h' fun c o c1 _ c3 c4 e => hk c o c1 c3 c4 e
structure ZG (xs ys : Array Value) (lo : Addr) (h : Heap) (as : List Addr) : Prop where
  rise : as.Pairwise (· < ·)
  above : ∀ a ∈ as, lo < a
  pairs : ∀ (j : Nat) (a : Addr), as[j]? = some a → ∃ x y, xs[j]? = some x ∧ ys[j]? = some y ∧ h.get? a = some { cls := .type "tuple", data := .seq #[x, y] }
theorem ZG.there {lo : Addr} {h : Heap} {as : List Addr} (g : ZG xs ys lo h as) {a : Addr} (ha : a ∈ as) : a < h.objs.size := by
  obtain ⟨j, hj⟩ := List.mem_iff_getElem?.mp ha
  obtain ⟨_, _, _, _, e⟩ := g.pairs j a hj
  exact Heap.lt_size e
theorem z_loop {R : Result → Shared → Prop} (hh : A.handled = none) (D : ZipApart z TI TO i1 i2 l1 l2) (L : ZLow z TI TO i1 i2 l1 l2 S) (hn : xs.size ≤ sizeLine) (hxy : xs.size = ys.size) (res : Value) {h₁ : Heap}
    (hR : ∀ h' tk acc c as, (∀ b o, b ≠ S → b ≠ z → b ≠ TO → b ≠ i1 → b ≠ i2 → h₁.get? b = some o → h'.get? b = some o) → h'.get? S = some { cls := .type "list", dict := none, data := .seq acc c, slots := #[] } → as.length = xs.size → ZG xs ys S h' as →
      acc.toList = as.map Value.ref → R (.ok (.ret res)) { s with heap := h', toks := tk }) :
    ∀ (k i : Nat) (h : Heap) (tk c : Nat) (acc : Array Value) (as : List Addr), xs.size - i = k → i ≤ xs.size → ZSt z TI TO i1 i2 l1 l2 S xs ys i h → (∀ b o, b ≠ S → b ≠ z → b ≠ TO → b ≠ i1 → b ≠ i2 → h₁.get? b = some o → h.get? b = some o) →
      h.get? S = some { cls := .type "list", dict := none, data := .seq acc c, slots := #[] } → acc.toList = as.map Value.ref → as.length = i → ZG xs ys S h as →
      codeAny (model prog w) A (.builtin "list.extend.loop" ⟨[.ref S, .ref z, res], []⟩) R { s with heap := h, toks := tk } := by
  have nz : S ≠ z := Nat.ne_of_gt L.z
  have nTO : S ≠ TO := Nat.ne_of_gt L.TO
  have n1 : S ≠ i1 := Nat.ne_of_gt L.i1
  have n2 : S ≠ i2 := Nat.ne_of_gt L.i2
  have off : ∀ {b : Addr}, S < b → b ≠ z ∧ b ≠ TO ∧ b ≠ i1 ∧ b ≠ i2 := fun hb => ⟨Nat.ne_of_gt (Nat.lt_trans L.z hb), Nat.ne_of_gt (Nat.lt_trans L.TO hb), Nat.ne_of_gt (Nat.lt_trans L.i1 hb), Nat.ne_of_gt (Nat.lt_trans L.i2 hb)⟩
  intro k
  induction k with
  | zero =>
    intro i h tk c acc as hk hi hst hkeep hS hacc hal hG
    have hin : i = xs.size := by omega
    refine codeAny_builtin PySem.F.entry_extend_loop ?_
    rw [Around.under_plainId PySem.F.plain_extend_loop _]
    show wpAny _ A.in1 (pyNext (.ref z) >>= _) _ _ _
    refine wpAny_bind (z_done (s := { s with heap := h, toks := tk }) (A := A.in1) hh D hst (.inl (Array.getElem?_eq_none (by omega))) fun h' he => ?_)
    refine wpAny_pure (hR h' tk acc c as (fun b o h1 h2 h3 h4 h5 e => he b o h2 h3 h4 h5 (hkeep b o h1 h2 h3 h4 h5 e)) (he S _ nz nTO n1 n2 hS) (by omega) ⟨hG.rise, hG.above, fun j a hj => ?_⟩ hacc)
    obtain ⟨x, y, e1, e2, e3⟩ := hG.pairs j a hj
    obtain ⟨o1, o2, o3, o4⟩ := off (hG.above a (List.mem_of_getElem? hj))
    exact ⟨x, y, e1, e2, he a _ o1 o2 o3 o4 e3⟩
  | succ k ih =>
    intro i h tk c acc as hk hi hst hkeep hS hacc hal hG
    have hlt : i < xs.size := by omega
    have hlt2 : i < ys.size := by omega
    have ex := Array.getElem?_eq_getElem hlt
    have ey := Array.getElem?_eq_getElem hlt2
    have hsz : acc.size = i := by rw [← Array.length_toList, hacc, List.length_map, hal]
    have hSl : S < h.objs.size := Heap.lt_size hS
    refine codeAny_builtin PySem.F.entry_extend_loop ?_
    rw [Around.under_plainId PySem.F.plain_extend_loop _]
    show wpAny _ A.in1 (pyNext (.ref z) >>= _) _ _ _
    refine wpAny_bind (z_item (s := { s with heap := h, toks := tk }) (S := S) D hSl hst ex ey fun h' hst' ht hz hkp => ?_)
    dsimp only at ht hz hkp ⊢
    have hS' := hkp S _ nz nTO n1 n2 hS
    have up : ∀ b o, b ≠ S → h'.get? b = some o → (h'.update S (Obj.mapSeq (·.push (Value.ref h.objs.size)))).get? b = some o := fun b o hb e => (Heap.get?_update_other _ _ (Ne.symm hb)).trans e
    show wpAny _ A.in1 (updateSeq S (·.push (Value.ref h.objs.size)) >>= _) _ _ _
    refine wpAny_bind ?_
    refine wpAny_updateSeq hS' rfl (wpAny_pure ⟨plainId_quiet PySem.F.plain_extend_loop _, ih (i + 1) _ tk _ (acc.push (Value.ref h.objs.size)) (as ++ [h.objs.size]) (by omega) hlt (hst'.keep L up)
      (fun b o h1 h2 h3 h4 h5 e => up b o h1 (hkp b o h2 h3 h4 h5 (hkeep b o h1 h2 h3 h4 h5 e))) (Heap.get?_update_self _ hS' rfl) (by rw [Array.toList_push, hacc, List.map_append]; rfl) (by rw [List.length_append, hal]; rfl) ⟨?_, ?_, ?_⟩⟩) (by rw [hsz]; omega) (by show (acc.push (Value.ref h.objs.size)).size ≤ sizeLine + 1; rw [Array.size_push, hsz]; omega)
    · refine List.pairwise_append.mpr ⟨hG.rise, List.pairwise_singleton _ _, fun a ha b hb => ?_⟩
      rw [List.mem_singleton.mp hb]
      exact hG.there ha
    · intro a ha
      rcases List.mem_append.mp ha with ha | ha
      · exact hG.above a ha
      · rw [List.mem_singleton.mp ha]; exact hSl
    · intro j b hj
      rcases Nat.lt_trichotomy j as.length with h1 | h1 | h1
      · rw [List.getElem?_append_left h1] at hj
        obtain ⟨x', y', e1, e2, e3⟩ := hG.pairs j b hj
        have hb := hG.above b (List.mem_of_getElem? hj)
        obtain ⟨o1, o2, o3, o4⟩ := off hb
        exact ⟨x', y', e1, e2, up b _ (Nat.ne_of_gt hb) (hkp b _ o1 o2 o3 o4 e3)⟩
      · subst h1
        have hb : h.objs.size = b := by simpa using hj
        subst hb
        exact ⟨_, _, by rw [hal]; exact ex, by rw [hal]; exact ey, up _ _ (Nat.ne_of_gt hSl) ht⟩
      · have hnone : (as ++ [h.objs.size])[j]? = none := List.getElem?_eq_none (by rw [List.length_append, List.length_singleton]; omega)
        rw [hnone] at hj; cases hj
theorem z_extend {R : Result → Shared → Prop} (hh : A.handled = none) (D : ZipApart z TI TO i1 i2 l1 l2) (L : ZLow z TI TO i1 i2 l1 l2 S) (hn : xs.size ≤ sizeLine) (hxy : xs.size = ys.size) (res : Value) (c₀ : Nat)
    (st : ZSt z TI TO i1 i2 l1 l2 S xs ys 0 s.heap) (hz : IsZip s.heap z TI TO .none) (hS : s.heap.get? S = some { cls := .type "list", data := .seq #[] c₀ })
    (hR : ∀ h' tk acc c as, (∀ b o, b ≠ S → b ≠ z → b ≠ TO → b ≠ i1 → b ≠ i2 → s.heap.get? b = some o → h'.get? b = some o) → h'.get? S = some { cls := .type "list", dict := none, data := .seq acc c, slots := #[] } → as.length = xs.size → ZG xs ys S h' as →
      acc.toList = as.map Value.ref → R (.ok (.ret res)) { s with heap := h', toks := tk }) :
    wpAny (model prog w) A.in1 (Builtin.List.listExtendWith (.ref S) (.ref z) res)
      (fun fin s' => match fin with | .done f => R (.ok f) s' | .again c' => c'.quiet = true ∧ codeAny (model prog w) A c' R s') (fun e s' => R (.error e) s') s := by
  have hSz : S ≠ z := Nat.ne_of_gt L.z
  have key : ∀ (h : Heap) (c₁ tk : Nat), (∀ b o, b ≠ S → s.heap.get? b = some o → h.get? b = some o) → h.get? S = some { cls := .type "list", data := .seq #[] c₁ } → codeAny (model prog w) A (.builtin "list.extend.loop" ⟨[.ref S, .ref z, res], []⟩) R { s with heap := h, toks := tk } := by
    intro h c₁ tk hk hS₁
    exact z_loop (s := s) (h₁ := s.heap) hh D L hn hxy res hR xs.size 0 h tk c₁ #[] [] (Nat.sub_zero _) (Nat.zero_le _) (st.keep L hk) (fun b o hb _ _ _ _ e => hk b o hb e) hS₁ rfl rfl
      ⟨List.Pairwise.nil, (fun _ ha => nomatch ha), (fun j a hj => by simp at hj)⟩
  have hT : s.TypeIs (.ref z) "zip" := ⟨_, hz, rfl⟩
  unfold Builtin.List.listExtendWith
  refine wpAny_bind (wpAny_typeOf (T := "zip") hT ?_)
  have h1 : Builtin.List.listSameRef (.ref S) (.ref z) = false := by simp [Builtin.List.listSameRef, hSz]
  have h2 : (Value.type "zip" == Value.type "list") = false := by decide
  have h3 : (Value.type "zip" == Value.type "tuple") = false := by decide
  simp only [h1, h2, h3, Bool.or_false, Bool.false_eq_true, if_false]
  refine wpAny_bind (wpAny_pyIter_zip hz ?_)
  refine wpAny_bind (wpAny_holding ?_)
  unfold Builtin.List.listLengthHint
  refine wpAny_bind (wpAny_specialOf hT nolen_zip ?_)
  show wpAny _ A.in1 (specialOf (Value.ref z) (Str.ofString "__length_hint__") >>= _) _ _ _
  refine wpAny_bind (wpAny_specialOf hT nohint_zip ?_)
  refine wpAny_pure ?_
  show wpAny _ A.in1 (rule "list.extend.makes-room" >>= fun _ => Builtin.List.listTouch (.ref S) >>= fun _ =>
    again (.builtin "list.extend.loop" ⟨[.ref S, .ref z, res], []⟩)) _ _ _
  refine wpAny_bind (wpAny_rule ?_)
  refine wpAny_bind ?_
  show wpAny _ _ (updateSeq S (·.push .none) >>= fun _ => updateSeq S (·.pop)) _ _ _
  refine wpAny_bind (wpAny_updateSeq hS rfl ?_)
  have hS₂ := Heap.get?_update_self (Obj.mapSeq (·.push Value.none)) hS rfl
  refine wpAny_updateSeq (hz := by seq_fits) hS₂ rfl ?_
  have hS₃ := Heap.get?_update_self (Obj.mapSeq (·.pop)) hS₂ rfl
  refine wpAny_pure ⟨plainId_quiet PySem.F.plain_extend_loop _, key _ _ _ (fun b o hb e => ?_) hS₃⟩
  exact (Heap.get?_update_other _ _ (Ne.symm hb)).trans ((Heap.get?_update_other _ _ (Ne.symm hb)).trans e)
theorem z_call {Q : Value → Shared → Prop} (hh : A.handled = none) (D : ZipApart z TI TO i1 i2 l1 l2) (L : ZLow z TI TO i1 i2 l1 l2 s.heap.objs.size) (hn : xs.size ≤ sizeLine) (hxy : xs.size = ys.size)
    (st : ∀ S h, (∀ b o, s.heap.get? b = some o → h.get? b = some o) → ZSt z TI TO i1 i2 l1 l2 S xs ys 0 h) (hz : IsZip s.heap z TI TO .none)
    (hQ : ∀ h' tk acc c as, (∀ b o, b ≠ z → b ≠ TO → b ≠ i1 → b ≠ i2 → s.heap.get? b = some o → h'.get? b = some o) → h'.get? s.heap.objs.size = some { cls := .type "list", dict := none, data := .seq acc c, slots := #[] } → as.length = xs.size → ZG xs ys s.heap.objs.size h' as →
      acc.toList = as.map Value.ref → Q (.ref s.heap.objs.size) { s with heap := h', toks := tk }) :
    wpAny (model prog w) A (call (.type "list") [.ref z]) Q E s := by
  refine callType_codes (Q₁ := fun obj s₁ => obj = .ref s.heap.objs.size ∧ s₁ = { s with heap := s.heap.push { cls := .type "list", data := .seq #[] } }) PySem.F.called_list (PySem.F.typeCall_list_1 _) PySem.F.entry_list_init
    (code_list_new _ ⟨rfl, rfl⟩) fun obj s₁ h₁ => ?_
  obtain ⟨rfl, rfl⟩ := h₁
  have hS : (s.heap.push { cls := .type "list", data := .seq #[] }).get? s.heap.objs.size = some { cls := .type "list", data := .seq #[] } := Heap.get?_push_size _ rfl
  refine ⟨⟨_, hS, rfl⟩, PySem.F.args_list_init_2 _ _, ?_⟩
  show wpAny _ _ (do let old ← Builtin.List.listItems (.ref s.heap.objs.size); Builtin.List.listUpdate (.ref s.heap.objs.size) (fun _ => #[]); letGo old.toList.reverse; Builtin.List.listExtendWith (.ref s.heap.objs.size) (.ref z) .none) _ _ _
  refine wpAny_bind ?_
  unfold Builtin.List.listItems
  refine wpAny_bind (wpAny_seqItems hS rfl (wpAny_pure ?_))
  show wpAny _ _ (updateSeq s.heap.objs.size (fun _ => #[]) >>= fun _ => letGo (#[] : Array Value).toList.reverse >>= fun _ => Builtin.List.listExtendWith (.ref s.heap.objs.size) (.ref z) .none) _ _ _
  refine wpAny_bind (wpAny_updateSeq hS rfl ?_)
  have hS₂ := Heap.get?_update_self (Obj.mapSeq (fun _ => (#[] : Array Value))) hS rfl
  have oth : ∀ b o, s.heap.get? b = some o → ((s.heap.push { cls := .type "list", data := .seq #[] }).update s.heap.objs.size (Obj.mapSeq (fun _ => (#[] : Array Value)))).get? b = some o :=
    fun b o e => (Heap.get?_update_other _ _ (Nat.ne_of_gt (Heap.lt_size e))).trans (Heap.get?_push_of_some _ e)
  refine wpAny_bind (wpAny_letGo ?_)
  refine z_extend (A := A.in1) hh D L hn hxy .none _ (st _ _ oth) (oth _ _ hz) hS₂ fun h' tk acc c as hk hS' hl hG hacc => ?_
  exact ⟨rfl, hQ h' tk acc c as (fun b o h1 h2 h3 h4 e => hk b o (Nat.ne_of_lt (Heap.lt_size e)) h1 h2 h3 h4 (oth b o e)) hS' hl hG hacc⟩
end
open L2
/-- new pairs at these addresses -/
def putZ : Hp → List Addr → List (V × V) → Hp
  | H, a :: as, p :: ps => putZ (upd H a (.tup [p.1, p.2])) as ps
  | H, _, _ => H
theorem putZ_off {b : Addr} : ∀ (as : List Addr) (ps : List (V × V)) (H : Hp), b ∉ as → putZ H as ps b = H b
  | [], _, _, _ => rfl
  | _ :: _, [], _, _ => rfl
  | a :: as, p :: ps, H, h => by
    show putZ (upd H a (.tup [p.1, p.2])) as ps b = H b
    rw [putZ_off as ps _ (fun z => h (List.mem_cons_of_mem _ z)), upd_ne (fun z => h (by rw [z]; exact List.mem_cons_self))]
theorem putZ_at : ∀ (as : List Addr) (ps : List (V × V)) (H : Hp), as.length = ps.length → as.Nodup → Paired (fun (t : Addr) (p : V × V) => putZ H as ps t = some (.tup [p.1, p.2])) as ps
  | [], [], _, _, _ => .nil
  | [], _ :: _, _, h, _ => by cases h
  | _ :: _, [], _, h, _ => by cases h
  | a :: as, p :: ps, H, h, hn => by
    have hn' := List.nodup_cons.mp hn
    have ih := putZ_at as ps (upd H a (.tup [p.1, p.2])) (Nat.succ.inj h) hn'.2
    refine .cons ?_ ih
    show putZ (upd H a (.tup [p.1, p.2])) as ps a = some (.tup [p.1, p.2])
    rw [putZ_off as ps _ hn'.1, upd_same]
def tListZip (K : PySem.W.Frag) (ta : TA) : TE := fun σ H Q => ta σ H fun vs H1 => ∃ (a b : Addr) (xs ys : List V), vs = [.ref a, .ref b] ∧ SqL K H1 a xs ∧ SqL K H1 b ys ∧ xs.length = ys.length ∧
  ∀ (H' : Hp) (p : Addr) (ts : List Addr), (∀ b o, H1 b = some o → H' b = some o) → H1 p = none → (∀ t ∈ ts, H1 t = none) → p ∉ ts → H' p = some (.lst (ts.map V.ref)) → Paired (fun (t : Addr) (q : V × V) => H' t = some (.tup [q.1, q.2])) ts (xs.zip ys) → Q (.ref p) H'
section
variable {X : Cx} {e e2 : Expr} {ta : TA} {p zp zpos pos : Pos}
theorem zip_laid {pins : List (Addr × Obj)} {σ : L2.St} {H : Hp} {s : Shared} {h' : Heap} {tk S : Nat} {xs ys : List V} {us ws : List Value} {acc : Array Value} {c : Nat} {as : List Addr} (I : Inv X pins σ H s) (hz : xs.length ≤ sizeLine) (rx : Vals xs us) (ry : Vals ys ws) (hxy : xs.length = ys.length)
    (hSz : s.heap.objs.size ≤ S) (hk : ∀ b o, s.heap.get? b = some o → h'.get? b = some o) (hS : h'.get? S = some { cls := .type "list", dict := none, data := .seq acc c, slots := #[] }) (hl : as.length = xs.length) (hG : ZG us.toArray ws.toArray S h' as) (hacc : acc.toList = as.map Value.ref) :
    ∃ H' : Hp, (∀ b o, H b = some o → H' b = some o) ∧ H S = none ∧ (∀ t ∈ as, H t = none) ∧ S ∉ as ∧ H' S = some (.lst (as.map V.ref)) ∧ Paired (fun (t : Addr) (q : V × V) => H' t = some (.tup [q.1, q.2])) as (xs.zip ys) ∧ Inv X pins σ H' { s with heap := h', toks := tk } := by
  have lz : (xs.zip ys).length = xs.length := by rw [List.length_zip, ← hxy, Nat.min_self]
  have hSn : S ∉ as := fun z => Nat.lt_irrefl _ (hG.above _ z)
  have nd : as.Nodup := List.Pairwise.imp (fun {a b} (h : a < b) => Nat.ne_of_lt h) hG.rise
  have new : ∀ t ∈ as, H t = none := fun t ht => I.hok.fresh (Nat.le_trans hSz (Nat.le_of_lt (hG.above t ht)))
  have newS : H S = none := I.hok.fresh hSz
  have atP := putZ_at as (xs.zip ys) (upd H S (.lst (as.map V.ref))) (by rw [lz, hl]) nd
  have off : ∀ b, b ∉ as → b ≠ S → putZ (upd H S (.lst (as.map V.ref))) as (xs.zip ys) b = H b := fun b h1 h2 => by rw [putZ_off as _ _ h1, upd_ne h2]
  have low : ∀ b o, s.heap.get? b = some o → b ∉ as ∧ b ≠ S := fun b o e => ⟨fun z => absurd (Heap.lt_size e) (Nat.not_lt.mpr (Nat.le_trans hSz (Nat.le_of_lt (hG.above b z)))), Nat.ne_of_lt (Nat.lt_of_lt_of_le (Heap.lt_size e) hSz)⟩
  have kp : ∀ b u, H b = some u → (putZ (upd H S (.lst (as.map V.ref))) as (xs.zip ys)) b = some u := fun b u e => by
    rw [off b (fun z => by rw [new b z] at e; cases e) (fun z => by rw [z, newS] at e; cases e)]
    exact e
  have eS : putZ (upd H S (.lst (as.map V.ref))) as (xs.zip ys) S = some (.lst (as.map V.ref)) := by rw [putZ_off as _ _ hSn, upd_same]
  refine ⟨putZ (upd H S (.lst (as.map V.ref))) as (xs.zip ys), kp, newS, new, hSn, eS, atP, ?_⟩
  refine I.call' (ch := []) rfl ⟨fun b o q _ _ _ => hk b o q, fun b o q _ _ _ => ⟨o.slots, hk b o q⟩, fun b o q n _ => ?_, fun b o q _ => ⟨o, hk b o q⟩, fun b xs q => kp b _ q, fun b o u q => kp b _ q, fun b ps q => ⟨#[], by rw [kp b _ q]; simp⟩⟩ (fun b u q => ?_) I.bare fun b z => by simp at z
  · obtain ⟨z1, z2⟩ := low b o q
    rw [off b z1 z2]
    exact n
  · by_cases hb : b ∈ as
    · obtain ⟨j, pq, e1, e2, e3⟩ := LiI.paired_ix atP hb
      rw [e3] at q
      cases q
      obtain ⟨x, y, f1, f2, f3⟩ := hG.pairs j b e1
      obtain ⟨ex, ey⟩ := List.getElem?_zip_eq_some.mp e2
      obtain ⟨u1, g1, r1⟩ := rx.get ex
      obtain ⟨u2, g2, r2⟩ := ry.get ey
      have q1 : us[j]? = some x := by simpa using f1
      have q2 : ws[j]? = some y := by simpa using f2
      rw [g1] at q1
      rw [g2] at q2
      cases q1
      cases q2
      exact ⟨by show 2 ≤ sizeLine; decide, [x, y], .cons r1 (.cons r2 .nil), ⟨_, f3, rfl, _, rfl⟩⟩
    · by_cases hb2 : b = S
      · rw [hb2] at q ⊢
        rw [eS] at q
        cases q
        refine ⟨by rw [List.length_map]; omega, acc.toList, c, by rw [hacc]; exact LiI.vals_refs as, ?_⟩
        rw [Array.toArray_toList]
        exact hS
      · rw [off b hb hb2] at q
        exact (I.hok b u q).stay (fun d v _ y => hk d v y) (fun d y => kp d _ y) fun d xs y => kp d _ y
/-- list(zip(e, e2)) -/
theorem pe_listZip (hc : X.calm = true) (hg : Gl X "list") (hm : X.mg "list" = none) (hv : bootBuiltins "list" = some (.type "list")) (hgz : Gl X "zip") (hmz : X.mg "zip" = none) (ha : PA X [e, e2] ta)
    (hs : starEach [.Call (.Name "zip" zp) [e, e2] [] zpos] X.env = (false, eval (.Call (.Name "zip" zp) [e, e2] [] zpos) X.env) :: starEach [] X.env := by rfl)
    (hsz : starEach [e, e2] X.env = (false, eval e X.env) :: starEach [e2] X.env := by rfl) (hpl : (backTo zpos (starEach [e2] X.env)).any (·.1) = false := by rfl) :
    PE X (.Call (.Name "list" p) [.Call (.Name "zip" zp) [e, e2] [] zpos] [] pos) (tListZip X.K ta) := by
  refine ⟨fun pins s σ H Q I hq => ?_⟩
  refine wpAny_Call_Name_kw (ld_blt I hg hm hv ?_)
  refine PyProof.Rows.callWith_type1 ?_ hs rfl
  rw [hs]
  show wpAny _ _ (spliced ((false, eval (.Call (.Name "zip" zp) [e, e2] [] zpos) X.env) :: backTo pos (starEach [] X.env))) _ _ s
  refine Calls.spliced_cons ?_
  refine Call_ (ld_blt I hgz hmz PyProof.Rows.boot_zip (PyProof.Rows.callWith_type1 (thn (ha.run zpos pins s σ H _ I hq) fun us s1 ⟨vs, H1, I1, r1, q1⟩ => ?_) hsz hpl))
  obtain ⟨a, b, xs, ys, ex, hqx, hqy, hxy, q⟩ := q1
  subst ex
  cases r1 with
  | cons r rr =>
    cases rr with
    | cons r' rr =>
      cases rr
      cases r
      cases r'
      obtain ⟨its, rv, p1, b1⟩ := I1.list hqx
      obtain ⟨its2, rv2, p2, _⟩ := I1.list hqy
      have la : a < s1.heap.objs.size := p1.lt
      have lb : b < s1.heap.objs.size := p2.lt
      have lx : its.length = xs.length := rv.length.symm
      have ly : its2.length = ys.length := rv2.length.symm
      refine call_zip_2 p1.isList p2.isList fun h' hz hTI hTO h1 h2 hsize hk => ?_
      refine Calls.spliced_nil ?_
      have low : ZLow (s1.heap.objs.size + 4) (s1.heap.objs.size + 2) (s1.heap.objs.size + 3) s1.heap.objs.size (s1.heap.objs.size + 1) a b h'.objs.size := by
        rw [hsize]
        exact ⟨Nat.add_lt_add_left (by decide) _, Nat.add_lt_add_left (by decide) _, Nat.add_lt_add_left (by decide) _, Nat.lt_add_of_pos_right (by decide), Nat.add_lt_add_left (by decide) _, Nat.lt_of_lt_of_le la (Nat.le_add_right _ _), Nat.lt_of_lt_of_le lb (Nat.le_add_right _ _)⟩
      refine z_call (s := { s1 with heap := h' }) (xs := its.toArray) (ys := its2.toArray) (I1.ok.hd hc) (zipApart_new la lb) low ?_ ?_ (fun S h hkh => ⟨hkh _ _ hTI, h1.at fun o e => hkh _ o e, h2.at fun o e => hkh _ o e, p1.isList.at fun o e => hkh _ o (hk _ o e), p2.isList.at fun o e => hkh _ o (hk _ o e), .inl ⟨hkh _ _ hz, _, _, hkh _ _ hTO⟩⟩) hz fun h2' tk acc c as hk2 hS hl hG hacc => ?_
      · show its.length ≤ sizeLine
        omega
      · show its.length = its2.length
        omega
      have hkAll : ∀ b o, s1.heap.get? b = some o → h2'.get? b = some o := by
        intro b o e
        have l := Heap.lt_size e
        exact hk2 b o (Nat.ne_of_lt (Nat.lt_of_lt_of_le l (Nat.le_add_right _ _))) (Nat.ne_of_lt (Nat.lt_of_lt_of_le l (Nat.le_add_right _ _))) (Nat.ne_of_lt l) (Nat.ne_of_lt (Nat.lt_of_lt_of_le l (Nat.le_add_right _ _))) (hk b o e)
      obtain ⟨H', k1, k2, k3, k4, k5, k6, J⟩ := zip_laid (s := s1) (tk := tk) (S := h'.objs.size) (xs := xs) (ys := ys) I1 (by omega) rv rv2 hxy (by rw [hsize]; omega) hkAll hS (by rw [hl]; exact lx) hG hacc
      exact ⟨.ref _, H', J, rfl, q H' _ as k1 k2 k3 k4 k5 k6⟩
end
end ZiL

/-! dict(zip(xs, ys)) of two lists of one length -/
namespace ZiD
open PySem PySem.Spec PyProof.Rows PySem.W PySem.Calls L2
def tDictZip (K : PySem.W.Frag) (ta : TA) : TE := fun σ H Q => ta σ H fun vs H1 => ∃ (a b : Addr) (ks : List Key) (ys : List V), vs = [.ref a, .ref b] ∧ SqL K H1 a (ks.map kV) ∧ SqL K H1 b ys ∧ ks.length = ys.length ∧
  ∀ p, H1 p = none → Q (.ref p) (upd H1 p (.dK (mergeK [] (ks.zip ys))))
theorem kv_zip : ∀ {ks : List Key} {ys : List V} {us : List Value}, Vals ys us → L2.KV (ks.zip ys) (ks.zip us)
  | [], _, _, _ => by
    rw [List.zip_nil_left, List.zip_nil_left]
    exact .nil
  | k :: ks, _, _, .nil => by
    rw [List.zip_nil_right, List.zip_nil_right]
    exact .nil
  | k :: ks, _, _, .cons r t => .cons ⟨rfl, r⟩ (kv_zip (ks := ks) t)
section
variable {X : Cx} {e e2 : Expr} {ta : TA} {p zp zpos pos : Pos}
theorem pe_dictZip (hc : X.calm = true) (hg : Gl X "dict") (hm : X.mg "dict" = none) (hv : bootBuiltins "dict" = some (.type "dict")) (hgz : Gl X "zip") (hmz : X.mg "zip" = none) (ha : PA X [e, e2] ta)
    (hs : starEach [.Call (.Name "zip" zp) [e, e2] [] zpos] X.env = (false, eval (.Call (.Name "zip" zp) [e, e2] [] zpos) X.env) :: starEach [] X.env := by rfl)
    (hsz : starEach [e, e2] X.env = (false, eval e X.env) :: starEach [e2] X.env := by rfl) (hpl : (backTo zpos (starEach [e2] X.env)).any (·.1) = false := by rfl) :
    PE X (.Call (.Name "dict" p) [.Call (.Name "zip" zp) [e, e2] [] zpos] [] pos) (tDictZip X.K ta) := by
  refine ⟨fun pins s σ H Q I hq => ?_⟩
  refine wpAny_Call_Name_kw (ld_blt I hg hm hv ?_)
  refine PyProof.Rows.callWith_type1 ?_ hs rfl
  rw [hs]
  show wpAny _ _ (spliced ((false, eval (.Call (.Name "zip" zp) [e, e2] [] zpos) X.env) :: backTo pos (starEach [] X.env))) _ _ s
  refine Calls.spliced_cons ?_
  refine Call_ (ld_blt I hgz hmz PyProof.Rows.boot_zip (PyProof.Rows.callWith_type1 (thn (ha.run zpos pins s σ H _ I hq) fun us s1 ⟨vs, H1, I1, r1, q1⟩ => ?_) hsz hpl))
  obtain ⟨a, b, ks, ys, ex, hqx, hqy, hxy, q⟩ := q1
  subst ex
  cases r1 with
  | cons r rr =>
    cases rr with
    | cons r' rr =>
      cases rr
      cases r
      cases r'
      obtain ⟨its, rv, p1, b1⟩ := I1.list hqx
      obtain ⟨its2, rv2, p2, _⟩ := I1.list hqy
      have la : a < s1.heap.objs.size := p1.lt
      have lb : b < s1.heap.objs.size := p2.lt
      have lx : its.length = ks.length := by rw [← rv.length, List.length_map]
      have ly : its2.length = ys.length := rv2.length.symm
      have hb1 : ks.length ≤ sizeLine := by rw [List.length_map] at b1; exact b1
      refine call_zip_2 p1.isList p2.isList fun h' hz hTI hTO h1 h2 hsize hk => ?_
      refine Calls.spliced_nil ?_
      have hn : min its.toArray.size its2.toArray.size = ks.length := by
        rw [List.size_toArray, List.size_toArray, lx, ly, ← hxy, Nat.min_self]
      refine PySem.call_dict_pairs (s := { s1 with heap := h' }) (knd := mixKind X.prog X.w) (kvs := ks.zip its2) (PySem.PairArg.zip (s1.heap.objs.size + 4) (s1.heap.objs.size + 2) (s1.heap.objs.size + 3) s1.heap.objs.size (s1.heap.objs.size + 1) a b (zipApart_new la lb) its.toArray its2.toArray) (I1.ok.hd hc)
        ⟨hz, hTI, ⟨_, _, hTO⟩, h1, h2, p1.isList.at fun o e => hk _ o e, p2.isList.at fun o e => hk _ o e⟩ ⟨?_, fun i key v hrel => ?_⟩ (by rw [hn]; exact hb1) fun h2' tk hd' hk2 => ?_
      · rw [hn, List.length_zip, ly, ← hxy, Nat.min_self]
      · obtain ⟨e1, e2⟩ := hrel
        have e1' : its[i]? = some key := by simpa using e1
        have e2' : its2[i]? = some v := by simpa using e2
        have hi : i < ks.length := by
          rw [← lx]
          exact (List.getElem?_eq_some_iff.mp e1').1
        have ek : ks[i]? = some ks[i] := List.getElem?_eq_getElem hi
        obtain ⟨u1, g1, r1⟩ := rv.get (show (ks.map kV)[i]? = some (kV ks[i]) by rw [List.getElem?_map, ek]; rfl)
        rw [g1] at e1'
        cases e1'
        exact ⟨ks[i], List.getElem?_zip_eq_some.mpr ⟨ek, e2'⟩, kV_is (P := X.prog) (w := X.w) r1⟩
      have hkAll : ∀ b o, s1.heap.get? b = some o → h2'.get? b = some o := by
        intro b o e
        have l := Heap.lt_size e
        refine hk2 b o (fun hm => ?_) (hk b o e)
        simp only [List.mem_cons, List.not_mem_nil, or_false] at hm
        rcases hm with h | h | h | h
        · exact absurd l (by rw [h]; exact Nat.not_lt.mpr (Nat.le_add_right _ _))
        · exact absurd l (by rw [h]; exact Nat.not_lt.mpr (Nat.le_add_right _ _))
        · exact absurd l (by rw [h]; exact Nat.lt_irrefl _)
        · exact absurd l (by rw [h]; exact Nat.not_lt.mpr (Nat.le_add_right _ _))
      have hle : s1.heap.objs.size ≤ h'.objs.size := by rw [hsize]; omega
      have hms : (h'.objs.size == sysModules) = false := beq_eq_false_iff_ne.mpr (Nat.ne_of_gt (Nat.lt_of_lt_of_le I1.big hle))
      have hlen : (mergeK [] (ks.zip ys)).length ≤ sizeLine := by
        refine Nat.le_trans (length_mergeK _ []) ?_
        rw [List.length_nil, Nat.zero_add, List.length_zip, ← hxy, Nat.min_self]
        exact hb1
      exact ⟨.ref h'.objs.size, upd H1 h'.objs.size (.dK (mergeK [] (ks.zip ys))), I1.laid (t' := tk) hkAll hle (show ObjOk X.prog X.w _ _ _ (.dK (mergeK [] (ks.zip ys))) from ⟨hlen, hms, merged [] (ks.zip its2), KV.merge (kv_zip rv2) .nil, hd'⟩), rfl, q _ (I1.hok.fresh hle)⟩
end
end ZiD

/-! repr of None or of an integer -/
namespace L2
open PySem PySem.Spec PyProof.Rows
def noneText : Option Int → Str
  | none => "None"
  | some i => toString i
def optV : Option Int → V
  | none => .non
  | some i => .int i
def rReprO : List V → Hp → VK → Prop := fun xs H Q => ∃ o : Option Int, xs = [optV o] ∧ (∀ i, o = some i → i.natAbs.log2 < 1920) ∧ Q (.str (noneText o)) H
theorem call_reprO {X : Cx} : CallR X (.builtin "repr") rReprO := by
  intro pins s σ H xs us Q I r h
  obtain ⟨o, rfl, hz, q⟩ := h
  cases o with
  | none =>
    obtain ⟨u, rfl, rx⟩ := vals1 r
    cases rx
    exact PySem.P.repr_of_none ⟨.str _, H, I.tok _, ⟨_, rfl⟩, q⟩
  | some i =>
    obtain ⟨u, rfl, t, rfl⟩ := vals1 r
    exact PySem.P.repr_of_int (hz i rfl) ⟨.str _, H, I.tok _, ⟨_, rfl⟩, q⟩
end L2

/-! != of two dicts of flat values, alike or not -/
namespace L2
open PySem PySem.Spec PyProof.Rows
def hitF (ls : List (Key × V)) (p : Key × V) : Bool := match valV ls p.1 with
  | some q => eqV p.2 q
  | none => false
theorem hits_flat {A : Around} {s : Shared} {ls : List (Key × V)} {vb : List (Key × Value)} (rb : KV ls vb) (fl : ∀ k q, valV ls k = some q → flatV q = true) : ∀ {ks : List (Key × V)} {va : List (Key × Value)}, KV ks va → (∀ p ∈ ks, flatV p.2 = true) → PySem.W.KeqHits A s vb va (ks.all (hitF ls))
  | [], _, .nil, _ => .nil
  | p :: ks, (k, v) :: va, .cons ⟨h1, h2⟩ t, fk => by
    have ek : p.1 = k := h1
    have rest := hits_flat (A := A) (s := s) rb fl (ks := ks) (va := va) t fun q hq => fk q (List.mem_cons_of_mem _ hq)
    rw [List.all_cons]
    unfold hitF
    cases hv : valV ls p.1 with
    | none =>
      have rv := rb.val p.1
      rw [hv] at rv
      have hn : valueAt vb k = none := by
        rw [← ek]
        cases q : valueAt vb p.1 with
        | none => rfl
        | some y => rw [q] at rv; exact False.elim rv
      exact .miss hn
    | some q =>
      obtain ⟨y, hy, ry⟩ := RelO.some_of (v := q) (o := valueAt vb p.1) (by rw [← hv]; exact rb.val p.1)
      rw [ek] at hy
      exact .hit hy (eqAt_V h2 ry (fk p List.mem_cons_self) (fl _ _ hv)) rest
section
variable {X : Cx}
def rNeDF : R2 := fun x y H Q => ∃ a b ks ls, x = .ref a ∧ y = .ref b ∧ H a = some (.dK ks) ∧ H b = some (.dK ls) ∧ (∀ p ∈ ks, flatV p.2 = true) ∧ (∀ k q, valV ls k = some q → flatV q = true) ∧ Q (.bl (!(ks.length == ls.length && ks.all (hitF ls)))) H
theorem op_neDF (hu : X.A.units < cLine) : OpR X (compareOp .NotEq) rNeDF := by
  intro pins s σ H x y v u Q I rx ry h
  obtain ⟨a, b, ks, ls, ex, ey, ea, eb, fk, fl, q⟩ := h
  subst ex
  subst ey
  cases rx
  cases ry
  obtain ⟨_, na, va, ra, da⟩ := dk_of I.hok ea
  obtain ⟨_, nb, vb, rb, db⟩ := dk_of I.hok eb
  refine PySem.W.keq_ne (knd := mixKind X.prog X.w) na nb da db hu (fun _ => hits_flat rb fl ra fk) (fin_bl I q ?_)
  rw [← ra.length, ← rb.length]
end
end L2

/-! != of two lists of dicts that are alike -/
namespace PySem.SeqAt
open AutoSeq1 (wpAny_loadPart')
open MeetsSeq MeetsSeq2 MeetsSeq3 SeqRoads2
section
variable {prog : Program} {w : World}
theorem neLoopIn (l b : Addr) (items items2 : Array Value) (n n2 : Nat) (dd dd2 : Option Addr) (sl sl2 : Array (Option Value)) (hsz : items.size = items2.size) (e : Nat → Bool) (k : Nat) :
    ∀ i : Nat, items.size - i = k → MeetsIn prog w (Builtin.«list.__eq__.loop» ⟨[.ref l, .ref b, rawInt i, rawInt 3], []⟩)
      (fun A R s => s.heap.get? l = some { cls := .type "list", dict := dd, data := .seq items n, slots := sl } ∧ s.heap.get? b = some { cls := .type "list", dict := dd2, data := .seq items2 n2, slots := sl2 } ∧
        (∀ j (h1 : j < items.size) (h2 : j < items2.size), EqP prog w A.in1 s items[j] items2[j] (e j)) ∧
        R (.ok (.ret (.bool (!((List.range items.size).drop i).all e)))) s) := by
  induction k with
  | zero =>
    intro i hk A R s h
    obtain ⟨hp, g, d, tk, os⟩ := s; obtain ⟨hl, hb, he, h⟩ := h
    wp_walk using wpAny_loadPart' hl, wpAny_loadPart' hb
    have hi1 : items[((i : Nat) : Int).toNat]? = none := by simp; omega
    have hi2 : items2[((i : Nat) : Int).toNat]? = none := by simp; omega
    have hd : (List.range items.size).drop i = [] := by simp; omega
    rw [hd] at h
    rw [hi1, hi2]
    wp_walk using wpAny_loadPart' hl, wpAny_loadPart' hb
    show R (.ok (.ret (.bool (items.size != items2.size)))) _
    rw [hsz]
    simpa using h
  | succ k ih =>
    intro i hk A R s h
    obtain ⟨hp, g, d, tk, os⟩ := s; obtain ⟨hl, hb, he, h⟩ := h
    wp_walk using wpAny_loadPart' hl, wpAny_loadPart' hb
    have hlt : i < items.size := by omega
    have hlt2 : i < items2.size := by omega
    have hi1 : items[((i : Nat) : Int).toNat]? = some items[i] := by simp [hlt]
    have hi2 : items2[((i : Nat) : Int).toNat]? = some items2[i] := by simp [hlt2]
    have hd : (List.range items.size).drop i = i :: (List.range items.size).drop (i + 1) := by simp [List.drop_eq_getElem_cons, hlt]
    have hc : ((i : Int) + 1) = ((i + 1 : Nat) : Int) := by push_cast; rfl
    rw [hd, List.all_cons] at h
    rw [hi1, hi2]
    refine wpAny_bind (he i hlt hlt2 _ _ ?_)
    cases hb' : e i with
    | true =>
      rw [hb'] at h
      wp_walk
      rw [hc]
      exact ⟨plainId_quiet plain_eq_loop _, codeAny_builtin entry_eq_loop (by
        rw [Around.under_plainId plain_eq_loop _]
        exact ih (i + 1) (by omega) A R _ ⟨hl, hb, he, by simpa using h⟩)⟩
    | false =>
      rw [hb'] at h
      wp_walk using wpAny_loadPart' hl, wpAny_loadPart' hb
      rw [hi1, hi2]
      wp_walk
      simpa using h

theorem listNeIn (l b : Addr) (items items2 : Array Value) (n n2 : Nat) (dd dd2 : Option Addr) (sl sl2 : Array (Option Value)) (hsz : items.size = items2.size) (e : Nat → Bool) :
    MeetsIn prog w (Builtin.«list.__ne__» ⟨[.ref l, .ref b], []⟩)
      (fun A R s => s.heap.get? l = some { cls := .type "list", dict := dd, data := .seq items n, slots := sl } ∧ s.heap.get? b = some { cls := .type "list", dict := dd2, data := .seq items2 n2, slots := sl2 } ∧
        (∀ j (h1 : j < items.size) (h2 : j < items2.size), EqP prog w A.in1 s items[j] items2[j] (e j)) ∧
        R (.ok (.ret (.bool (!(List.range items.size).all e)))) s) := by
  intro A R s h
  obtain ⟨hp, g, d, tk, os⟩ := s; obtain ⟨hl, hb, he, h⟩ := h
  have f3 := AutoSeq1.sub_list_list
  have hne : ¬ (items.size != items2.size) = true := by simp [hsz]
  wp_walk using wpAny_loadPart' hl, wpAny_loadPart' hb
  exact ⟨plainId_quiet plain_eq_loop _, codeAny_builtin entry_eq_loop (by
    rw [Around.under_plainId plain_eq_loop _]
    exact neLoopIn l b items items2 n n2 dd dd2 sl sl2 hsz e _ 0 rfl A R _ ⟨hl, hb, he, by simpa using h⟩)⟩


theorem rcNeLists {A : Around} {s : Shared} {l b : Addr} {items items2 : Array Value} {e : Nat → Bool} (hl : s.heap.IsList l items) (hb : s.heap.IsList b items2) (hsz : items.size = items2.size) (hu : A.units < cLine)
    (he : ∀ j (h1 : j < items.size) (h2 : j < items2.size), EqP prog w A.in1 s items[j] items2[j] (e j)) (E Q : Value → Shared → Prop) (h : Q (.bool (!(List.range items.size).all e)) s) : wpAny (model prog w) A (richCompare .NotEq (.ref l) (.ref b)) Q E s := by
  obtain ⟨⟨cls, dd, data, sl⟩, ho, hc, n, hd⟩ := id hl
  obtain ⟨⟨cls2, dd2, data2, sl2⟩, ho2, hc2, n2, hd2⟩ := id hb
  simp only at hc hd hc2 hd2
  subst hc hd hc2 hd2
  have ta : s.TypeIs (.ref l) "list" := ⟨_, ho, rfl⟩
  have tb : s.TypeIs (.ref b) "list" := ⟨_, ho2, rfl⟩
  exact wpAny_richCompare_same_room (op := .NotEq) ta tb F.slot_list_ne (call_meetsIn F.slot_list_ne ta F.entry_list_ne (F.args_list_ne_2 _ _) (listNeIn l b items items2 n n2 dd dd2 sl sl2 hsz e)
    ⟨ho, ho2, he, show Value.bool (!(List.range items.size).all e) ≠ Value.notImplemented ∧ Q (.bool (!(List.range items.size).all e)) s from ⟨(fun x => nomatch x), h⟩⟩) hu
end
end PySem.SeqAt
namespace L2
open PySem PySem.Spec PyProof.Rows
theorem hits_p {prog : Program} {w : World} {A : Around} {s : Shared} {kb : List (Key × Value)} : ∀ {ka : List (Key × Value)} {b : Bool}, PySem.W.KeqHits A s kb ka b → PySem.W.KeqHitsP prog w A s kb ka b
  | _, _, .nil => .nil
  | _, _, .miss h => .miss h
  | _, _, .hit h e r => .hit h e.eqP (hits_p r)
/-- two dicts of flat values, alike, at two addresses -/
def AlikeD (H : Hp) (a b : Addr) : Prop := a ≠ b ∧ ∃ ks ls, H a = some (.dK ks) ∧ H b = some (.dK ls) ∧ (∀ p ∈ ks, flatV p.2 = true) ∧ (∀ k q, valV ls k = some q → flatV q = true) ∧ (ks.length == ls.length && ks.all (hitF ls)) = true
def rNeLD : R2 := fun x y H Q => ∃ (l b : Addr) (ds es : List Addr), x = .ref l ∧ y = .ref b ∧ H l = some (.lst (ds.map V.ref)) ∧ H b = some (.lst (es.map V.ref)) ∧ Paired (AlikeD H) ds es ∧ Q (.bl false) H
section
variable {X : Cx}
theorem vals_get {xs : List V} {us : List Value} (h : Vals xs us) : ∀ {j : Nat} {x : V} {u : Value}, xs[j]? = some x → us[j]? = some u → RelV x u := by
  induction h with
  | nil => intro j x u e; simp at e
  | cons r _ ih =>
    intro j x u e1 e2
    cases j with
    | zero =>
      simp only [List.getElem?_cons_zero, Option.some.injEq] at e1 e2
      subst e1 e2
      exact r
    | succ j =>
      simp only [List.getElem?_cons_succ] at e1 e2
      exact ih e1 e2
theorem paired_ix {α β : Type} {R : α → β → Prop} : ∀ {l : List α} {m : List β}, Paired R l m → ∀ {j : Nat} {a : α} {b : β}, l[j]? = some a → m[j]? = some b → R a b
  | _, _, .nil, j, a, b, h, _ => by simp at h
  | _, _, .cons r t, 0, a, b, h1, h2 => by
    simp only [List.getElem?_cons_zero, Option.some.injEq] at h1 h2
    subst h1 h2
    exact r
  | _, _, .cons r t, j + 1, a, b, h1, h2 => by
    simp only [List.getElem?_cons_succ] at h1 h2
    exact paired_ix t h1 h2
theorem op_neLD (hu : X.A.units + 1 < cLine) : OpR X (compareOp .NotEq) rNeLD := by
  intro pins s σ H x y v u Q I rx ry h
  obtain ⟨l, b, ds, es, ex, ey, hl, hb, pr, q⟩ := h
  subst ex ey
  cases rx
  cases ry
  obtain ⟨its, rv, pl, _⟩ := I.list (SqL.of hl)
  obtain ⟨its2, rv2, pl2, _⟩ := I.list (SqL.of hb)
  have len : ds.length = es.length := Paired.length pr
  have l1 : its.length = ds.length := by rw [← rv.length, List.length_map]
  have l2 : its2.length = es.length := by rw [← rv2.length, List.length_map]
  have isl : s.heap.IsList l its.toArray := by
    obtain ⟨o, m, e, c, dd, qq⟩ := pl
    exact ⟨o, e, c, m, qq⟩
  have isl2 : s.heap.IsList b its2.toArray := by
    obtain ⟨o, m, e, c, dd, qq⟩ := pl2
    exact ⟨o, e, c, m, qq⟩
  have hsz : its.toArray.size = its2.toArray.size := by simp only [List.size_toArray]; omega
  refine SeqAt.rcNeLists isl isl2 hsz (by omega) (e := fun _ => true) (fun j h1 h2 => ?_) _ _ (fin_bl I q ?_)
  · simp only [List.size_toArray] at h1 h2
    simp only [List.getElem_toArray]
    have g1 : its[j]? = some its[j] := List.getElem?_eq_getElem h1
    have g2 : its2[j]? = some its2[j] := List.getElem?_eq_getElem h2
    have hjd : j < ds.length := by omega
    have hje : j < es.length := by omega
    have r1 := vals_get rv (j := j) (x := .ref ds[j]) (by rw [List.getElem?_map, List.getElem?_eq_getElem hjd]; rfl) g1
    have r2 := vals_get rv2 (j := j) (x := .ref es[j]) (by rw [List.getElem?_map, List.getElem?_eq_getElem hje]; rfl) g2
    have e1 : its[j] = Value.ref ds[j] := r1
    have e2 : its2[j] = Value.ref es[j] := r2
    rw [e1, e2]
    obtain ⟨ne, ks, ls, ea, eb, fk, fl, all⟩ := paired_ix pr (List.getElem?_eq_getElem hjd) (List.getElem?_eq_getElem hje)
    obtain ⟨_, na, va, ra, da⟩ := dk_of I.hok ea
    obtain ⟨_, nb, vb, rb, db⟩ := dk_of I.hok eb
    refine SeqAt.eqP_refs ne fun E' Q' hq => PySem.W.rcP_dicts (knd := mixKind X.prog X.w) na nb da db (show X.A.units + 1 < cLine from hu) (fun _ => hits_p (hits_flat rb fl ra fk)) E' Q' ?_
    rw [← ra.length, ← rb.length, all]
    exact hq
  · simp
end
end L2

/-! == of two lists of texts that are the same -/
namespace L2
open PySem PySem.Spec PyProof.Rows
def rEqSL : R2 := fun x y H Q => ∃ (l b : Addr) (zs : List Str), x = .ref l ∧ y = .ref b ∧ H l = some (.lst (zs.map V.str)) ∧ H b = some (.lst (zs.map V.str)) ∧ Q (.bl true) H
section
variable {X : Cx}
theorem op_eqSL (hu : X.A.units + 1 < cLine) : OpR X (compareOp .Eq) rEqSL := by
  intro pins s σ H x y v u Q I rx ry h
  obtain ⟨l, b, zs, ex, ey, hl, hb, q⟩ := h
  subst ex ey
  cases rx
  cases ry
  obtain ⟨its, rv, pl, _⟩ := I.list (SqL.of hl)
  obtain ⟨its2, rv2, pl2, _⟩ := I.list (SqL.of hb)
  have l1 : its.length = zs.length := by rw [← rv.length, List.length_map]
  have l2 : its2.length = zs.length := by rw [← rv2.length, List.length_map]
  have isl : s.heap.IsList l its.toArray := by
    obtain ⟨o, m, e, c, dd, qq⟩ := pl
    exact ⟨o, e, c, m, qq⟩
  have isl2 : s.heap.IsList b its2.toArray := by
    obtain ⟨o, m, e, c, dd, qq⟩ := pl2
    exact ⟨o, e, c, m, qq⟩
  have hsz : its.toArray.size = its2.toArray.size := by simp only [List.size_toArray]; omega
  refine SeqAt.rcP_lists isl isl2 hsz (by omega) (e := fun _ => true) (fun j h1 h2 => ?_) _ _ (fin_bl I q ?_)
  · simp only [List.size_toArray] at h1 h2
    simp only [List.getElem_toArray]
    have g1 : its[j]? = some its[j] := List.getElem?_eq_getElem h1
    have g2 : its2[j]? = some its2[j] := List.getElem?_eq_getElem h2
    have hjd : j < zs.length := by omega
    have r1 := vals_get rv (j := j) (x := .str zs[j]) (by rw [List.getElem?_map, List.getElem?_eq_getElem hjd]; rfl) g1
    have r2 := vals_get rv2 (j := j) (x := .str zs[j]) (by rw [List.getElem?_map, List.getElem?_eq_getElem hjd]; rfl) g2
    obtain ⟨t1, e1⟩ := (show RelV (.str zs[j]) its[j] from r1)
    obtain ⟨t2, e2⟩ := (show RelV (.str zs[j]) its2[j] from r2)
    rw [e1, e2]
    have e := (SeqAt.EqAt.str_str (A := X.A.in1) (s := s) zs[j] t1 zs[j] t2).eqP (prog := X.prog) (w := X.w)
    simpa using e
  · simp
end
end L2

/-! a lambda with parameters that captures nothing, as a value; a local name that holds such a one, called -/
namespace LamV
open PySem PySem.Spec PyProof.Rows L2 LamX NdefX
structure LF where
  qual : Str
  params : Arguments
  body : Expr
  scope : Scope
  c : Addr
def LF.nf (F : LF) : NF := ⟨"<lambda>", F.qual, F.params, [], F.scope, [], F.c⟩
/-- the object at f is the lambda F -/
def LamO (f : Addr) (F : LF) : HO := .ext fun h => ∃ (pm ctv : Value), h.get? f = some (PySem.W.kla_obj "<lambda>" F.qual F.params F.body F.scope [] pm F.c ctv)
theorem lamO_ne {f : Addr} {F : LF} (ps : Array Value) : LamO f F ≠ .tbl ps := fun z => by
  unfold LamO at z
  cases z
theorem lamO_at {P : Program} {w : World} {H : Hp} {h : Heap} {f : Addr} {F : LF} (hok : HOk P w H h) (e : H f = some (LamO f F)) : ∃ (pm ctv : Value), h.get? f = some (PySem.W.kla_obj "<lambda>" F.qual F.params F.body F.scope [] pm F.c ctv) := by
  obtain ⟨z, _, _⟩ := hok f _ e
  exact z
theorem clo_nil {cells : List (Str × Addr)} {names : List (Str × NameKind)} (h : ∀ y ∈ names, y.2 ≠ .free) : cloFrom cells names [] = [] := by
  refine List.eq_nil_iff_forall_not_mem.mpr fun p hp => ?_
  obtain ⟨y, c⟩ := p
  rcases cloFrom_mem hp with hm | ⟨h1, _⟩
  · cases hm
  · exact h _ h1 rfl
section
variable {X : Cx} {pins : List (Addr × Obj)} {σ : L2.St} {H : Hp} {s : Shared}
theorem inv_lam {F : LF} {t' : Nat} {pm ctv : Value} (I : Inv X pins σ H s) :
    Inv X pins σ (upd H s.heap.objs.size (LamO s.heap.objs.size F)) { s with heap := s.heap.push (PySem.W.kla_obj "<lambda>" F.qual F.params F.body F.scope [] pm F.c ctv), toks := t' } := by
  refine I.laid (a := s.heap.objs.size) (fun b u e => Heap.get?_push_of_some _ e) (Nat.le_refl _) ?_
  have e : (s.heap.push (PySem.W.kla_obj "<lambda>" F.qual F.params F.body F.scope [] pm F.c ctv)).get? s.heap.objs.size = some (PySem.W.kla_obj "<lambda>" F.qual F.params F.body F.scope [] pm F.c ctv) := Heap.get?_push_size _ rfl
  exact ⟨⟨pm, ctv, e⟩, ⟨_, e⟩, fun h1 h2 ⟨p, t, z⟩ st => ⟨p, t, st _ z⟩⟩
/-- the lambda is made: its code object is new, or found in the table -/
theorem lamv_make {T : List (Addr × Str)} {c P : Addr} {params : Arguments} {body : Expr} {scope : Scope} {pos : Pos} {E : Value → Shared → Prop} {Q : Value → Shared → Prop} (I : Inv X pins σ H s) (TB : TabB X.base X.mg c P) (hcode : X.env.code = .ref c)
    (hm : (P, X.env.qual ++ "<lambda>") ∈ T) (hu : ∀ p ∈ T, p.1 = P → p.2 = X.env.qual ++ "<lambda>") (hT : Tabs T H) (hdef : defaultsOf params X.env = ([], [])) (hfree : ∀ y ∈ scope.names, y.2 ≠ .free)
    (h : ∀ (f c' : Addr) (H1 : Hp) (s' : Shared), Inv X pins σ H1 s' → ExtN H H1 → Tabs T H1 → H f = none → H1 f = some (LamO f ⟨X.env.qual ++ "<lambda>", params, body, scope, c'⟩) → H1 c' = some (CodeO c' (X.env.qual ++ "<lambda>")) → Q (.ref f) s') :
    wpAny (model X.prog X.w) X.A (eval (.Lambda params body scope pos) X.env) Q E s := by
  obtain ⟨ps, hP, ht, ha⟩ := hT _ hm
  refine PySem.W.kla_eval hdef ?_
  have bP : s.heap.BuiltinsAt X.mg P := TB.bm.keeps I.bk
  have hP' : s.heap.get? P = some { cls := .none, data := .fields ps } := I.hok P _ hP
  have hclo : cloFrom X.env.cells scope.names [] = [] := clo_nil hfree
  have hfree' : ∀ y ∈ scope.names, y.2 = .free → ∃ c, X.env.cells.lookup y.1 = some c := fun y hy e => absurd e (hfree y hy)
  cases hc : codeAmong pos ps.toList with
  | none =>
    refine PySem.W.kla_makeFunction (mg := X.mg) (c := c) (P := P) (ps := ps) (closure_ok hfree') I.ok.glob (I.mod.glob.keeps I.bk) hcode (TB.code.keeps I.bk) hP' ht hc TB.gP bP fun c' ctv h' tk hx hge hlt hrec htb => ?_
    obtain ⟨c2, oc, vs, t, e2, hoc, hd, hv⟩ := hrec
    cases e2
    have nC : H c' = none := I.hok.fresh hge
    have I1 := inv_table (t' := tk) (more := #[rawInt pos.line, rawInt pos.col, .ref c']) (h' := h') I hP (fun b o hb e => hx b o hb e) htb hge ⟨oc, vs, t, hoc, hd, hv⟩
    have hE : ExtN H (upd (upd H P (.tbl (ps ++ #[rawInt pos.line, rawInt pos.col, .ref c']))) c' (CodeO c' (X.env.qual ++ "<lambda>"))) := fun b o e n => by
      rw [upd_ne (ne_of_none e nC), upd_ne (fun z => n ps (Option.some.inj (e.symm.trans (by rw [z]; exact hP))))]
      exact e
    have eL : (ps ++ #[rawInt pos.line, rawInt pos.col, .ref c']).toList = ps.toList ++ [rawInt pos.line, rawInt pos.col, .ref c'] := by simp
    have T1 : Tabs T (upd (upd H P (.tbl (ps ++ #[rawInt pos.line, rawInt pos.col, .ref c']))) c' (CodeO c' (X.env.qual ++ "<lambda>"))) := fun p hp => by
      by_cases hb : p.1 = P
      · rw [hu p hp hb, hb]
        refine ⟨_, by rw [upd_ne (ne_of_none hP nC), upd_same], by rw [eL]; exact PySem.TriplesOk_snoc _ _ _ _ ht, fun p' cv hcv => ?_⟩
        rw [eL] at hcv
        rcases among_app _ ht hcv with z | z
        · obtain ⟨c0, e1, e2⟩ := ha p' cv z
          exact ⟨c0, e1, hE _ _ e2 codeO_ne⟩
        · exact ⟨c', z, upd_same⟩
      · obtain ⟨ps', a1, a2, a3⟩ := hT p hp
        refine ⟨ps', by rw [upd_ne (ne_of_none a1 nC), upd_ne hb]; exact a1, a2, fun p' cv hcv => ?_⟩
        obtain ⟨c0, e1, e2⟩ := a3 p' cv hcv
        exact ⟨c0, e1, hE _ _ e2 codeO_ne⟩
    have nF := I1.hok.fresh (Nat.le_refl _)
    have I2 := inv_lam (F := ⟨X.env.qual ++ "<lambda>", params, body, scope, c'⟩) (t' := tk) (pm := (X.mg "__name__").getD .none) (ctv := ctv) I1
    rw [hclo]
    refine h h'.objs.size c' _ _ I2 (fun b o e n => ?_) (T1.ext fun b o e => ?_) (I.hok.fresh (Nat.le_trans hge (Nat.le_of_lt hlt))) upd_same ?_
    · have e1 := hE b o e n
      exact (upd_ne (ne_of_none e1 nF)).trans e1
    · exact (upd_ne (ne_of_none e nF)).trans e
    · exact (upd_ne (Nat.ne_of_lt hlt)).trans upd_same
  | some cv =>
    obtain ⟨c', e, hco⟩ := ha pos cv hc
    subst e
    refine PySem.W.kla_makeFunctionHit (mg := X.mg) (c := c) (P := P) (ps := ps) (closure_ok hfree') I.ok.glob (I.mod.glob.keeps I.bk) hcode (TB.code.keeps I.bk) hP' ht hc bP fun ctv h' tk hx hsz => ?_
    have I1 : Inv X pins σ H { s with heap := h', toks := tk } := I.kept hx
    have nF : H h'.objs.size = none := I1.hok.fresh (Nat.le_refl _)
    have I2 := inv_lam (F := ⟨X.env.qual ++ "<lambda>", params, body, scope, c'⟩) (t' := tk) (pm := (X.mg "__name__").getD .none) (ctv := ctv) I1
    rw [hclo]
    refine h h'.objs.size c' _ _ I2 (fun b o e n => ?_) (hT.ext fun b o e => ?_) nF upd_same ?_
    · exact (upd_ne (ne_of_none e nF)).trans e
    · exact (upd_ne (ne_of_none e nF)).trans e
    · exact (upd_ne (ne_of_none hco nF)).trans hco
end
/-- lambda ..: ..: a new function -/
def tLamV (T : List (Addr × Str)) (mk : Addr → LF) : TE := fun σ H Q => Tabs T H ∧ ∀ (f c' : Addr) (H1 : Hp), ExtN H H1 → Tabs T H1 → H f = none → H1 f = some (LamO f (mk c')) → H1 c' = some (CodeO c' (mk c').qual) → Q (.ref f) H1
theorem pe_lamv {X : Cx} {T : List (Addr × Str)} {c P : Addr} {params : Arguments} {body : Expr} {scope : Scope} {pos : Pos} (TB : TabB X.base X.mg c P) (hcode : X.env.code = .ref c) (hm : (P, X.env.qual ++ "<lambda>") ∈ T) (hu : ∀ p ∈ T, p.1 = P → p.2 = X.env.qual ++ "<lambda>")
    (hdef : defaultsOf params X.env = ([], [])) (hfree : scope.names.all (fun y => !decide (y.2 = .free)) = true) : PE X (.Lambda params body scope pos) (tLamV T fun c' => ⟨X.env.qual ++ "<lambda>", params, body, scope, c'⟩) := by
  refine ⟨fun pins s σ H Q I h => ?_⟩
  obtain ⟨hT, h⟩ := h
  have hf : ∀ y ∈ scope.names, y.2 ≠ .free := fun y hy e => by
    have q := List.all_eq_true.mp hfree y hy
    rw [decide_eq_true e] at q
    cases q
  exact lamv_make I TB hcode hm hu hT hdef hf fun f c' H1 s' I1 eN T1 f0 f1 c1 => ⟨.ref f, H1, I1, rfl, h f c' H1 eN T1 f0 f1 c1⟩
/-! ### what it promises -/
structure LOk (P : Program) (w : World) (K : PySem.W.Frag) (mg : Str → Option Value) (base : Heap) (CX : CXT) (k : Nat) (F : LF) (ps : List Str) (sp : Sp) : Prop where
  len : ∀ vs H Q E, sp vs H Q E → vs.length = ps.length
  run : ∀ (f : Addr) (A : Around) (outer : List Env) (s : Shared) (H : Hp) (us : List Value) (vs : List V) (Q : VK) (E : XK), Room k A → Env0 P w K mg base A outer s H → H f = some (LamO f F) → H F.c = some (CodeO F.c F.qual) →
    Vals vs us → sp vs H Q E → codeAny (model P w) A (.call (.ref f) ⟨us, []⟩) (CR CX outer P w H s Q E) s
section
variable {CX : CXT} {P : Program} {w : World} {K : PySem.W.Frag} {mg : Str → Option Value} {base : Heap} {N ps : List Str} {F : LF} {k j : Nat} {sp : Sp}
theorem lok_of (S : NScope N ps [] F.scope) (hb : ∀ (pm ctv : Value) (us : List Value), us.length = ps.length → bindArgs (PySem.W.kla_fn "<lambda>" F.qual F.params F.body F.scope [] pm (.ref F.c) ctv) ⟨us, []⟩ = pure (ps.zip us)) (len : ∀ vs H Q E, sp vs H Q E → vs.length = ps.length)
    (hbody : ∀ (f : Addr) (A : Around) (outer : List Env) (s : Shared) (H : Hp) (vs : List V) (Q : VK) (E : XK), Room k (A.deeper (envF F.nf f s.heap.objs.size)) → sp vs H Q E →
      ∃ t, PE (ncx CX P w K mg base N F.nf f A outer s H E) F.body t ∧ t (startF N vs []) H Q) :
    LOk P w K mg base CX (k + 1) F ps sp := by
  refine ⟨len, fun f A outer s H us vs Q E hr e0 hf hc r hsp => ?_⟩
  have hl := len _ _ _ _ hsp
  have lim : s.heap.NoLimit := e0.mod.nolimit.keeps fun b o e => (e0.bs b o e).1
  obtain ⟨pm, ctv, ho⟩ := lamO_at e0.hok hf
  refine PySem.W.kla_callFunE hr.depth ho rfl S.co S.gen rfl (codeO_at e0.hok hc) ?_
  rw [hb pm ctv us (by rw [← r.length]; exact hl)]
  refine wpAny_pure (wpAny_newFunctionEnv S.nocell (fun ⟨n, _⟩ hy => S.par n (List.of_mem_zip hy).1) (fun h₁ hns hsb => ⟨lim.fresh _ hsb, ?_⟩) S.kind)
  show codeAny _ _ (.expr F.body (envF F.nf f s.heap.objs.size)) _ _
  have kp : ∀ b o, s.heap.get? b = some o → h₁.get? b = some o := fun b o e => hsb.extBut b o (Nat.ne_of_lt (Heap.lt_size e)) (Heap.get?_push_of_some _ e)
  obtain ⟨t, ht, hq⟩ := hbody f A outer s H vs Q E (hr.deeper _) hsp
  have C : CellsAt F.nf.cl ([] : List Str) ([] : List (Option V)) s.heap H := ⟨rfl, fun y c e => (by cases e), fun x y c e => (by cases e), fun i y e => by simp at e⟩
  have J : Inv (ncx CX P w K mg base N F.nf f A outer s H E) [] (startF N vs []) H { s with heap := h₁, toks := s.toks + (ps.zip us).length } := inv_startN (F := F.nf) S hr.hd e0 hl r C hns kp
  refine PySem.W.kla_codeExpr (wpAny_mono (ht.run [] _ _ _ _ J hq) (fun v s' hq => ?_) fun e s' hq => hq)
  obtain ⟨w', H', J', rv, q⟩ := hq
  exact ⟨w', H', J'.os, J'.bare, J'.base, J'.hok, rv, q⟩
end
/-! ### calls -/
/-- the slot i holds one of the lambdas of S -/
def tCallV (i : Nat) (S : LF → Sp → Prop) (E : XK) (t : TA) : TE := fun σ H Q => ∃ (f : Addr) (F : LF) (sp : Sp), σ[i]? = some (some (.ref f)) ∧ S F sp ∧ H f = some (LamO f F) ∧
  t σ H fun vs H1 => H1 f = some (LamO f F) ∧ H1 F.c = some (CodeO F.c F.qual) ∧ sp vs H1 Q E
theorem lamAt {X : Cx} {pins : List (Addr × Obj)} {σ : L2.St} {H : Hp} {s : Shared} {f : Addr} {F : LF} (I : Inv X pins σ H s) (e : H f = some (LamO f F)) : PySem.W.FnAt f s.heap := by
  obtain ⟨pm, ctv, ho⟩ := lamO_at I.hok e
  exact ⟨_, _, _, _, ho⟩
theorem pe_callv {X : Cx} {CX : CXT} {i j k : Nat} {x : Str} {S : LF → Sp → Prop} {E : XK} {t : TA} {e : Expr} {es : List Expr} {p pos : Pos} (Fn : ∀ F sp, S F sp → ∃ ps, LOk X.prog X.w X.K X.mg X.base CX k F ps sp) (hr : Room j X.A) (hk : k ≤ j) (hx : Passes CX X E) (hN : X.N[i]? = some x) (hv : Vis X.env.scope x) (ha : PA X (e :: es) t)
    (hd : (x == ("__debug__" : Str)) = false := by decide) (hcd : (x == ("__classdict__" : Str)) = false := by decide)
    (he : starEach (e :: es) X.env = (false, eval e X.env) :: starEach es X.env := by rfl) (hpl : (backTo pos (starEach es X.env)).any (·.1) = false := by rfl) :
    PE X (.Call (.Name x p) (e :: es) [] pos) (tCallV i S E t) := by
  refine ⟨fun pins s σ H Q I h => ?_⟩
  obtain ⟨f, F, sp, hs, hS, hf, ht⟩ := h
  refine wpAny_Call_Name_kw (thn ((pe_var (pos := p) hN hv hd hcd).run pins s σ H (fun v H1 => v = .ref f ∧ H1 = H) I ⟨.ref f, hs, rfl, rfl⟩) fun u s1 ⟨v, H1, I1, r1, q1⟩ => ?_)
  obtain ⟨ev, eH⟩ := q1
  subst ev
  rw [eH] at I1
  obtain rfl : u = Value.ref f := r1
  refine PySem.W.callWith_F (first := []) (lamAt I1 hf) (thn (ha.run pos pins s1 σ H _ I1 ht) fun us s2 ⟨vs, H2, I2, r, h1, h2, q⟩ => ⟨lamAt I2 h1, ?_⟩) he hpl
  show wpAny _ _ (call (.ref f) us) _ _ _
  obtain ⟨ps, Fk⟩ := Fn F sp hS
  refine wpAny_call (codeAny_mono (Fk.run f X.A X.stack s2 H2 us vs Q E (hr.mono hk) I2.env0 h1 h2 r q) fun r s' hq => ?_)
  cases r with
  | error e => exact hx pins σ H2 s2 e s' I2 hq
  | ok fl =>
    cases fl with
    | ret u => exact I2.after hq
    | next => exact False.elim hq
    | brk => exact False.elim hq
    | cont => exact False.elim hq
end LamV

namespace RK
open PySem L2
def othersOf (zs : List Str) (x : Str) : List Str := zs.filter fun y => decide (y ≠ x)
theorem others_take {zs : List Str} {x z : Str} {i : Nat} (h : zs[i]? = some z) : othersOf (zs.take (i + 1)) x = othersOf (zs.take i) x ++ if z = x then [] else [z] := by
  unfold othersOf
  rw [take_more h, List.filter_append, List.filter_cons, List.filter_nil]
  by_cases e : z = x
  · rw [if_pos e, if_neg (by rw [decide_eq_false (fun q => q e)]; exact Bool.false_ne_true)]
  · rw [if_neg e, if_pos (decide_eq_true e)]
theorem mem_others {zs : List Str} {x y : Str} : y ∈ othersOf zs x ↔ y ∈ zs ∧ y ≠ x := by
  unfold othersOf
  rw [List.mem_filter, decide_eq_true_iff]
theorem others_len {zs : List Str} {x : Str} : (othersOf zs x).length ≤ zs.length := List.length_filter_le _ _
theorem others_nodup {zs : List Str} {x : Str} (h : zs.Nodup) : (othersOf zs x).Nodup := h.filter _
section
variable {K : PySem.W.Frag} {n D : Addr} {zs : List Str} {x : Str} {i k : Nat} {vs : List Nat} {tv : TE} {σ : St} {H1 : Hp} {Qd : Hp → Prop} {f : Str → V}
theorem dictF_it (hn : H1 n = some (.lst (zs.map V.str))) (hD : H1 D = none) (hl : zs.length ≤ 1000)
    (hw : ∀ y, wipe ((wipe σ vs).set i (some y)) vs = wipe σ vs) (hi : ∀ y : V, ((wipe σ vs).set i (some y))[i]? = some (some y)) (hk : ∀ y : V, ((wipe σ vs).set i (some y))[k]? = some (some (.str x)))
    (hv : ∀ z ∈ zs, z ≠ x → ∀ G (Q : VK), Same H1 G → (∀ G', Same G G' → Q (f z) G') → tv ((wipe σ vs).set i (some (.str z))) G Q)
    (hd : ∀ G ts, Same H1 G → G D = some (.lst (ts.map V.ref)) → Paired (fun (t : Addr) (kv : Key × V) => G t = some (.tup [kV kv.1, kv.2])) ts (kvV (othersOf zs x) f) → Qd G) :
    ∃ W : Nat → Nat → Hp → Prop, (∃ m, W 0 m (upd H1 D (.lst []))) ∧ ∀ j m H, W j m H →
      ((Itl K n).stop j H ∧ Qd H) ∨ ((Itl K n).go j H ∧ ∃ Nx : Hp → Prop, (∀ H', Nx H' → ∃ m', m' < m ∧ W (j + 1) m' H') ∧ ∀ y H', (Itl K n).yld j H y H' → gName i y (wipe σ vs) H' fun σ2 H2 => wipe σ2 vs = wipe σ vs ∧ tTest (tOp rNe (tVar i) (tVar k)) σ2 H2 fun b H3 =>
        if b = true then tTup (tCons (tVar i) (tCons tv tNil)) σ2 H3 fun y H4 => ∃ acc, H4 D = some (.lst acc) ∧ acc.length < sizeLine ∧ Nx (upd H4 D (.lst (acc ++ [y]))) else Nx H3) := by
  refine lc_it (walk_list (K := K) (a := n) (xs := zs.map V.str)) (fun j G => Same H1 G ∧ ∃ ts : List Addr, G D = some (.lst (ts.map V.ref)) ∧ Paired (fun (t : Addr) (kv : Key × V) => t ≠ D ∧ G t = some (.tup [kV kv.1, kv.2])) ts (kvV (othersOf (zs.take j) x) f)) ⟨same_upd hD, [], upd_same, .nil⟩ (fun j G _ p => SqL.of (p.1 _ _ hn)) ?_ ?_
  · rintro j y0 G1 G2 hj ⟨sm, ts, hacc, hpr⟩ ⟨rfl, hy0⟩
    obtain ⟨z, hz, hzm, rfl⟩ := name_at hy0
    refine ⟨hw _, _, hi _, _, hk _, rfl, _, rfl, ?_⟩
    rw [others_take hz]
    refine ite2 (fun h => ?_) (fun h => ?_)
    · have hzx : z ≠ x := fun e => by subst e; simp at h
      rw [if_neg hzx]
      refine st_tup (st_cons ⟨_, hi _, st_cons ?_⟩)
      refine hv z hzm hzx _ _ sm fun G3 s3 => st_nil ?_
      refine ⟨by show 2 ≤ sizeLine; decide, fun U hU => ?_⟩
      generalize hE : upd G3 U _ = G4
      have s4 : Same G3 G4 := hE ▸ same_upd hU
      have eU := congrFun hE.symm U
      rw [upd_same] at eU
      clear hE
      have s24 := s3.trans s4
      have hUD : U ≠ D := Ne.symm (ne_of_none (s3 _ _ hacc) hU)
      have htl : ts.length = (othersOf (zs.take j) x).length := by rw [Paired.length hpr, kvV_len]
      refine ⟨_, s24 _ _ hacc, ?_, fun b o hb => ?_, ts ++ [U], ?_, ?_⟩
      · rw [List.length_map, htl]
        have l1 := others_len (zs := zs.take j) (x := x)
        rw [List.length_take] at l1
        exact Nat.lt_of_le_of_lt (Nat.le_trans l1 (Nat.le_trans (Nat.min_le_right _ _) hl)) (by decide)
      · rw [upd_ne (ne_of_none hb hD)]
        exact s24 _ _ (sm _ _ hb)
      · rw [upd_same, List.map_append]
        rfl
      · exact pairs_snoc hpr (fun b o hb e => by rw [upd_ne hb]; exact s24 _ _ e) hUD (by rw [upd_ne hUD]; exact eU)
    · have hzx : z = x := Decidable.byContradiction fun e => h (by
        rw [decide_eq_false (fun q => e (by cases q; rfl))]
        rfl)
      rw [if_pos hzx, List.append_nil]
      exact ⟨sm, ts, hacc, hpr⟩
  · rintro G ⟨sm, ts, hacc, hpr⟩
    rw [List.length_map, List.take_length] at hpr
    exact hd G ts sm hacc (Paired.mono (fun _ _ h => h.2) hpr)
end
section
variable {K : PySem.W.Frag} {d D : Addr} {od : Obj} {os : List Str} {g : Str → Int} {i : Nat} {vs : List Nat} {tv : TE} {σ : St} {H1 : Hp} {Qd : Hp → Prop} {f : Str → V}
/-- dict([(one, ..) for one in seen]): the dict is locked while it is walked -/
theorem dictK_it (hd0 : H1 d = some (.frz od (.dK (kvOf os g)))) (hD : H1 D = none) (hl : os.length ≤ 1000)
    (hw : ∀ y, wipe ((wipe σ vs).set i (some y)) vs = wipe σ vs) (hi : ∀ y : V, ((wipe σ vs).set i (some y))[i]? = some (some y))
    (hv : ∀ z ∈ os, ∀ G (Q : VK), Same H1 G → (∀ G', Same G G' → Q (f z) G') → tv ((wipe σ vs).set i (some (.str z))) G Q)
    (hd : ∀ G ts, Same H1 G → G D = some (.lst (ts.map V.ref)) → Paired (fun (t : Addr) (kv : Key × V) => t ≠ d ∧ G t = some (.tup [kV kv.1, kv.2])) ts (kvV os f) → Qd G) :
    ∃ W : Nat → Nat → Hp → Prop, (∃ m, W 0 m (upd H1 D (.lst []))) ∧ ∀ j m H, W j m H →
      ((Itk d od (kvOf os g)).stop j H ∧ Qd H) ∨ ((Itk d od (kvOf os g)).go j H ∧ ∃ Nx : Hp → Prop, (∀ H', Nx H' → ∃ m', m' < m ∧ W (j + 1) m' H') ∧ ∀ y H', (Itk d od (kvOf os g)).yld j H y H' → gName i y (wipe σ vs) H' fun σ2 H2 => wipe σ2 vs = wipe σ vs ∧ tYes σ2 H2 fun b H3 =>
        if b = true then tTup (tCons (tVar i) (tCons tv tNil)) σ2 H3 fun y H4 => ∃ acc, H4 D = some (.lst acc) ∧ acc.length < sizeLine ∧ Nx (upd H4 D (.lst (acc ++ [y]))) else Nx H3) := by
  have hkl : (kvOf os g).length = os.length := List.length_map _
  refine lc_it (walk_keys (d := d) (o := od) (kvs := kvOf os g)) (fun j G => Same H1 G ∧ ∃ ts : List Addr, G D = some (.lst (ts.map V.ref)) ∧ Paired (fun (t : Addr) (kv : Key × V) => t ≠ D ∧ G t = some (.tup [kV kv.1, kv.2])) ts (kvV (os.take j) f)) ⟨same_upd hD, [], upd_same, .nil⟩ (fun j G _ p => p.1 _ _ hd0) ?_ ?_
  · rintro j y0 G1 G2 hj ⟨sm, ts, hacc, hpr⟩ ⟨rfl, k, v, hkv, rfl⟩
    obtain ⟨z, hz, rfl⟩ : ∃ z, os[j]? = some z ∧ k = Sum.inr z := by
      unfold kvOf at hkv
      rw [List.getElem?_map] at hkv
      obtain ⟨z, hz, e⟩ := Option.map_eq_some_iff.mp hkv
      exact ⟨z, hz, (Prod.mk.inj e).1.symm⟩
    have hzm : z ∈ os := List.mem_of_getElem? hz
    refine ⟨hw _, tyes ?_⟩
    refine st_tup (st_cons ⟨_, hi _, st_cons ?_⟩)
    refine hv z hzm _ _ sm fun G3 s3 => st_nil ?_
    refine ⟨by show 2 ≤ sizeLine; decide, fun U hU => ?_⟩
    generalize hE : upd G3 U _ = G4
    have s4 : Same G3 G4 := hE ▸ same_upd hU
    have eU := congrFun hE.symm U
    rw [upd_same] at eU
    clear hE
    have s24 := s3.trans s4
    have hUD : U ≠ D := Ne.symm (ne_of_none (s3 _ _ hacc) hU)
    have htl : ts.length = (os.take j).length := by rw [Paired.length hpr, kvV_len]
    refine ⟨_, s24 _ _ hacc, ?_, fun b o hb => ?_, ts ++ [U], ?_, ?_⟩
    · rw [List.length_map, htl, List.length_take]
      exact Nat.lt_of_le_of_lt (Nat.le_trans (Nat.min_le_right _ _) hl) (by decide)
    · rw [upd_ne (ne_of_none hb hD)]
      exact s24 _ _ (sm _ _ hb)
    · rw [upd_same, List.map_append]
      rfl
    · rw [take_more hz]
      exact pairs_snoc hpr (fun b o hb e => by rw [upd_ne hb]; exact s24 _ _ e) hUD (by rw [upd_ne hUD]; exact eU)
  · rintro G ⟨sm, ts, hacc, hpr⟩
    rw [hkl, List.take_length] at hpr
    refine hd G ts sm hacc (Paired.mono (fun t kv h => ⟨fun e => ?_, h.2⟩) hpr)
    have e2 := h.2
    rw [e, sm _ _ hd0] at e2
    cases e2
end
abbrev rDictP (K : PySem.W.Frag) : List V → Hp → VK → Prop := fun xs H_1 Q => ∃ a ps kvs, xs = [V.ref a] ∧ SqL K H_1 a (List.map V.ref ps) ∧ Paired (fun p kv => SqT K H_1 p [kV kv.fst, kv.snd]) ps kvs ∧ ∀ (p : Addr), H_1 p = none → Q (V.ref p) (upd H_1 p (HO.dK (mergeK [] kvs)))
theorem st_lst {t : TA} {σ : St} {H : Hp} {Q : VK} (h : t σ H fun xs H1 => xs.length ≤ sizeLine ∧ ∀ p, H1 p = none → Q (.ref p) (upd H1 p (.lst xs))) : tLst t σ H Q := h
section
variable {K : PySem.W.Frag} {σ : St} {G : Hp} {F d : Addr} {us : List V} {kvs added : List (Key × V)} {te : TE} {jF jd : Nat} {Q : VK}
theorem app_items (hF : σ[jF]? = some (some (.ref F))) (hd : σ[jd]? = some (some (.ref d))) (eF : G F = some (.lst us)) (hul : us.length < sizeLine) (hdG : G d = some (.dK kvs)) (hl : kvs.length + added.length ≤ 1000)
    (ha : ∀ G1 (Q : VK), Same G G1 → (∀ L ts G2, G2 L = some (.lst (ts.map V.ref)) → Paired (fun (t : Addr) (kv : Key × V) => G2 t = some (.tup [kV kv.1, kv.2])) ts added → Same G1 G2 → Q (.ref L) G2) → te σ G1 Q)
    (q : ∀ e3 G4, Same G G4 → G4 e3 = some (.dK (mergeK [] (kvs ++ added))) → G e3 = none → Q .non (upd G4 F (.lst (us ++ [.ref e3])))) :
    tBM K "list" rAppend (tVar jF) (tCons (tCB (rDictP K) (tCons (tOp rCat (LiI.tListItems (tVar jd)) te) tNil)) tNil) σ G Q := by
  refine ⟨_, hF, .inl ⟨rfl, _, SqL.of eF⟩, ?_⟩
  refine ⟨_, hd, d, kvs, rfl, hdG, fun G1 p1 ts1 (s1 : Same G G1) hp1 hts1 hpt1 e1 pr1 => ?_⟩
  refine ha G1 _ s1 fun L ts2 G2 eL pr2 s2 => ?_
  refine ⟨p1, L, _, _, rfl, rfl, s2 _ _ e1, eL, ?_, fun D hD => ?_⟩
  · rw [List.length_map, List.length_map, Paired.length pr1, Paired.length pr2]
    exact Nat.le_trans hl (by decide)
  generalize hE : upd G2 D _ = G3
  have s3 : Same G2 G3 := hE ▸ same_upd hD
  have eD := congrFun hE.symm D
  rw [upd_same] at eD
  clear hE
  have s03 : Same G G3 := s1.trans (s2.trans s3)
  refine ⟨D, ts1 ++ ts2, kvs ++ added, rfl, SqL.of (by rw [eD, List.map_append]), Paired.mono (fun t kv e => SqT.of e) (paired_app (Paired.mono (fun t kv e => s3 _ _ (s2 _ _ e)) pr1) (Paired.mono (fun t kv e => s3 _ _ e) pr2)), fun e3 he3 => ?_⟩
  generalize hE : upd G3 e3 _ = G4
  have s4 : Same G3 G4 := hE ▸ same_upd he3
  have ee3 := congrFun hE.symm e3
  rw [upd_same] at ee3
  clear hE
  have s04 : Same G G4 := s03.trans s4
  exact ⟨F, _, _, rfl, rfl, s04 _ _ eF, hul, q e3 G4 s04 ee3 (s03.free he3)⟩
theorem add_one {ta tb : TE} {z : Str} {v : V} {G1 : Hp} (ha : ∀ G2 (Q : VK), Q (.str z) G2 → ta σ G2 Q) (hb : ∀ G2 (Q : VK), Same G1 G2 → Q v G2 → tb σ G2 Q)
    (q : ∀ L ts G2, G2 L = some (.lst (ts.map V.ref)) → Paired (fun (t : Addr) (kv : Key × V) => G2 t = some (.tup [kV kv.1, kv.2])) ts [((Sum.inr z : Key), v)] → Same G1 G2 → Q (.ref L) G2) : tLst (tCons (tTup (tCons ta (tCons tb tNil))) tNil) σ G1 Q := by
  refine st_lst (st_cons (st_tup (st_cons (ha _ _ (st_cons (hb _ _ (Same.refl _) (st_nil ⟨by show 2 ≤ sizeLine; decide, fun T hT => st_nil ⟨by show 1 ≤ sizeLine; decide, fun L hL => ?_⟩⟩)))))))
  have sT := same_upd (o := .tup [V.str z, v]) hT
  have eT : (upd G1 T (.tup [V.str z, v])) T = some (.tup [V.str z, v]) := upd_same
  have sL := same_upd (o := .lst [V.ref T]) hL
  exact q L [T] _ upd_same (.cons (sL _ _ eT) .nil) (sT.trans sL)
theorem add_two {ta tb ta' tb' : TE} {z z' : Str} {v v' : V} {G1 : Hp} (ha : ∀ G2 (Q : VK), Q (.str z) G2 → ta σ G2 Q) (hb : ∀ G2 (Q : VK), Same G1 G2 → Q v G2 → tb σ G2 Q) (ha' : ∀ G2 (Q : VK), Q (.str z') G2 → ta' σ G2 Q) (hb' : ∀ G2 (Q : VK), Same G1 G2 → Q v' G2 → tb' σ G2 Q)
    (q : ∀ L ts G2, G2 L = some (.lst (ts.map V.ref)) → Paired (fun (t : Addr) (kv : Key × V) => G2 t = some (.tup [kV kv.1, kv.2])) ts [((Sum.inr z : Key), v), ((Sum.inr z' : Key), v')] → Same G1 G2 → Q (.ref L) G2) : tLst (tCons (tTup (tCons ta (tCons tb tNil))) (tCons (tTup (tCons ta' (tCons tb' tNil))) tNil)) σ G1 Q := by
  refine st_lst (st_cons (st_tup (st_cons (ha _ _ (st_cons (hb _ _ (Same.refl _) (st_nil ⟨by show 2 ≤ sizeLine; decide, fun T hT => ?_⟩)))))))
  have sT := same_upd (o := .tup [V.str z, v]) hT
  have eT : (upd G1 T (.tup [V.str z, v])) T = some (.tup [V.str z, v]) := upd_same
  generalize upd G1 T (.tup [V.str z, v]) = G2 at sT eT
  refine st_cons (st_tup (st_cons (ha' _ _ (st_cons (hb' _ _ sT (st_nil ⟨by show 2 ≤ sizeLine; decide, fun U hU => st_nil ⟨by show 2 ≤ sizeLine; decide, fun L hL => ?_⟩⟩))))))
  have sU := same_upd (o := .tup [V.str z', v']) hU
  have eU : (upd G2 U (.tup [V.str z', v'])) U = some (.tup [V.str z', v']) := upd_same
  have sL := same_upd (o := .lst [V.ref T, V.ref U]) hL
  exact q L [T, U] _ upd_same (.cons (sL _ _ (sU _ _ eT)) (.cons (sL _ _ eU) .nil)) (sT.trans (sU.trans sL))
/-- what a merged dict of such things is -/
theorem bad_dict {H : Hp} {e : Addr} {more : List (Key × V)} (he : H e = some (.dK (mergeK [] more))) (hl : more.length ≤ 1000) (h : ∀ kv ∈ more, keyOk kv.1 ∧ ValQ H kv.2) : BadV K (fun _ => True) H (.ref e) := by
  have q := merge_all (Pk := keyOk) (Pv := ValQ H) (kvs := []) (fun _ z => nomatch z) h
  exact .dct he (Nat.le_trans q.2 (by rw [List.length_nil]; omega)) q.1 trivial
end
end RK

namespace RK
open PySem L2
/-! ### the law's own numbers -/
/-- the fault's place and number, as the law's own look and the program tell it -/
def spWFault : Sp := fun vs H Q _ => ∃ (d : Addr) (ks : List Str) (g : Str → Int) (k : Int), vs = [.ref d, .int k] ∧ H d = some (.dK (kvOf ks g)) ∧ ks.length ≤ 1000 ∧
  ∀ L v H', L.Perm (ks.map g) → L.Pairwise (· ≤ ·) → FltAt H' (faultI L k) v → Same H H' → Q v H'
def spRightL : Sp := fun vs H Q _ => ∃ (a n : Addr) (zs : List Str) (k : Int) (m : Nat), vs = [.ref a, .ref n, .int k] ∧ a ≠ n ∧ SpAt H a m ∧ m < 1000000000 ∧ H n = some (.lst (zs.map V.str)) ∧ zs.Nodup ∧ zs.length ≤ 20 ∧ 1 ≤ k ∧ k ≤ 1000000 ∧
  ∀ d g H', H d = none → H' d = some (.dK (kvOf zs g)) → (∀ z ∈ zs, 0 ≤ g z ∧ g z ≤ 20000000) → (∀ L : List Int, L.Perm (zs.map g) → L.Pairwise (· ≤ ·) → faultI L k = none) → SpAt H' a (m + 40) → But a H H' → Q (.ref d) H'
def spWPart (K : PySem.W.Frag) : Sp := fun vs H Q _ => ∃ (a n d : Addr) (zs ls : List Str) (g : Str → Int) (m : Nat), vs = [.ref a, .ref n, .ref d] ∧ a ≠ n ∧ a ≠ d ∧ SpAt H a m ∧ m < 2000000000 ∧ H n = some (.lst (zs.map V.str)) ∧ H d = some (.dK (kvOf ls g)) ∧ (∀ z ∈ zs, z ∈ ls) ∧ zs.Nodup ∧ (∀ z ∈ zs, PyData.strOk z = true) ∧ 2 ≤ zs.length ∧ zs.length ≤ 20 ∧
  ∀ T e z ks H', H T = none → H e = none → H' T = some (.tup [.str z, .ref e]) → H' e = some (.dK (kvOf ks g)) → (z :: ks).Perm zs → SpAt H' a (m + 21) → But a H H' → Q (.ref T) H'
/-- one number more -/
def plusG (g : Str → Int) (z : Str) (x : Int) : Str → Int := fun y => if y = z then x else g y
def spWWith : Sp := fun vs H Q _ => ∃ (d : Addr) (ks : List Str) (g : Str → Int) (z : Str) (x : Int), vs = [.ref d, .str z, .int x] ∧ H d = some (.dK (kvOf ks g)) ∧ (z :: ks).Nodup ∧ ks.length ≤ 100 ∧
  ∀ e H', H e = none → H' e = some (.dK (kvOf (ks ++ [z]) (plusG g z x))) → Same H H' → Q (.ref e) H'
theorem plus_kv {ks : List Str} {g : Str → Int} {z : Str} {x : Int} (h : z ∉ ks) : kvOf ks g ++ [((Sum.inr z : Key), V.int x)] = kvOf (ks ++ [z]) (plusG g z x) := by
  unfold kvOf
  rw [List.map_append]
  congr 1
  · refine List.map_congr_left fun y hy => ?_
    have : y ≠ z := fun e => h (e ▸ hy)
    rw [show plusG g z x y = g y from if_neg this]
  · show _ = [((Sum.inr z : Key), V.int (plusG g z x z))]
    rw [show plusG g z x z = x from if_pos rfl]
theorem plus_map {ks : List Str} {g : Str → Int} {z : Str} {x : Int} (h : z ∉ ks) : (ks ++ [z]).map (plusG g z x) = ks.map g ++ [x] := by
  rw [List.map_append]
  congr 1
  · refine List.map_congr_left fun y hy => ?_
    have : y ≠ z := fun e => h (e ▸ hy)
    exact if_neg this
  · show [plusG g z x z] = _
    rw [show plusG g z x z = x from if_pos rfl]
theorem cnt_drawn {k : Int} : ∀ {L : List Int} {s : Nat}, 1 ≤ k → (∀ (i : Nat) (x : Int), L[i]? = some x → x ≤ ((s + i : Nat) : Int) * k) → ∀ t : Nat, t < L.length → t < cnt L (((s + t : Nat) : Int) * k)
  | [], _, _, _, t, h => by simp at h
  | y :: r, s, hk, hb, t, ht => by
    rw [cnt_cons]
    have hy := hb 0 y rfl
    rw [Nat.add_zero] at hy
    rw [if_pos (Int.le_trans hy (mul_mono' hk (Nat.le_add_right _ _)))]
    cases t with
    | zero => omega
    | succ t =>
      have := cnt_drawn (L := r) (s := s + 1) hk (fun i x hx => by have := hb (i + 1) x hx; rw [show s + 1 + i = s + (i + 1) by omega]; exact this) t (by simpa using ht)
      rw [show s + 1 + t = s + (t + 1) by omega] at this
      omega
theorem drawn_right {k : Int} {M L : List Int} (hk : 1 ≤ k) (hb : ∀ (i : Nat) (x : Int), M[i]? = some x → x ≤ (i : Int) * k) (hp : L.Perm M) (hs : L.Pairwise (· ≤ ·)) : faultI L k = none := by
  rw [fault_iff hs]
  intro t ht
  rw [cnt_perm hp]
  have := cnt_drawn (L := M) (s := 0) hk (fun i x hx => by rw [Nat.zero_add]; exact hb i x hx) t (by rw [← hp.length_eq]; exact ht)
  rw [Nat.zero_add] at this
  exact this
theorem zip_kv : ∀ {zs : List Str} {rs : List Int}, zs.Nodup → rs.length = zs.length → ∃ g : Str → Int, (zs.map fun z => (Sum.inr z : Key)).zip (rs.map V.int) = kvOf zs g ∧ zs.map g = rs
  | [], [], _, _ => ⟨fun _ => 0, rfl, rfl⟩
  | z :: zs, r :: rs, hnd, hl => by
    obtain ⟨hz, hnd'⟩ := List.nodup_cons.mp hnd
    obtain ⟨g, e1, e2⟩ := zip_kv (zs := zs) (rs := rs) hnd' (by simpa using hl)
    have hg : ∀ y ∈ zs, plusG g z r y = g y := fun y hy => if_neg (fun e => hz (by rw [← e]; exact hy))
    refine ⟨plusG g z r, ?_, ?_⟩
    · show ((Sum.inr z : Key), V.int r) :: (zs.map fun z => (Sum.inr z : Key)).zip (rs.map V.int) = ((Sum.inr z : Key), V.int (plusG g z r z)) :: kvOf zs (plusG g z r)
      rw [e1, show plusG g z r z = r from if_pos rfl]
      congr 1
      exact (List.map_congr_left fun y hy => by rw [hg y hy]).symm
    · show plusG g z r z :: zs.map (plusG g z r) = r :: rs
      rw [show plusG g z r z = r from if_pos rfl, ← e2]
      congr 1
      exact List.map_congr_left hg
  | [], _ :: _, _, h => by simp at h
  | _ :: _, [], _, h => by simp at h
theorem others_perm {zs ys : List Str} {z : Str} (hp : ys.Perm zs) (hnd : zs.Nodup) (hz : z ∈ zs) : (z :: othersOf ys z).Perm zs := by
  have hn : ys.Nodup := hp.nodup_iff.mpr hnd
  refine (List.perm_ext_iff_of_nodup (List.nodup_cons.mpr ⟨fun h => (mem_others.mp h).2 rfl, others_nodup hn⟩) hnd).mpr fun y => ?_
  rw [List.mem_cons, mem_others, hp.mem_iff]
  constructor
  · rintro (rfl | h)
    · exact hz
    · exact h.1
  · intro h
    by_cases e : y = z
    · exact .inl e
    · exact .inr ⟨h, e⟩
theorem dp_pairs {K : PySem.W.Frag} {G : Hp} : ∀ {ts : List Addr} {fs : List (Int × Nat)}, Paired (fun (t : Addr) (q : Int × Nat) => G t = some (.tup [.int (q.2 : Int), .int q.1])) ts fs → DpAll K G (ts.map V.ref) (fs.map fun q => .tuple [.int (q.2 : Int), .int q.1])
  | _, _, .nil => .nil
  | _, _, .cons h t => .cons (.tup (SqT.of h) (.cons (.int _) (.cons (.int _) .nil))) (dp_pairs t)
theorem lay_pairs : ∀ fs : List (Int × Nat), PyData.canLayAll0 (fs.map fun q => PyData.tuple [.int (q.2 : Int), .int q.1]) = true
  | [] => by simp [PyData.canLayAll0]
  | q :: fs => by simp [PyData.canLayAll0, PyData.canLay0, lay_pairs fs]
theorem depth_pairs : ∀ fs : List (Int × Nat), PyData.depthAll (fs.map fun q => PyData.tuple [.int (q.2 : Int), .int q.1]) ≤ 2
  | [] => by simp [PyData.depthAll]
  | q :: fs => by
    have h1 := depth_pairs fs
    simp only [List.map_cons, PyData.depthAll, PyData.depth]
    omega
section
variable {K : PySem.W.Frag} {n D : Addr} {L : List Int} {a b : Nat} {vs : List Nat} {te : TE} {tt : TT} {σ : St} {H1 : Hp} {Qd : Hp → Prop}
/-- pairs (place, number) of the enumerated numbers that p holds of -/
theorem lcT_it (p : Nat → Int → Bool) (hn : H1 n = some (.lst (L.map V.int))) (hD : H1 D = none) (hl : L.length ≤ 1000)
    (hg : ∀ T x y G (Q : St → Hp → Prop), G T = some (.tup [x, y]) → Q (((wipe σ vs).set a (some x)).set b (some y)) G → gTup K 2 (gCons (gName a) (gCons (gName b) gNil)) (.ref T) (wipe σ vs) G Q)
    (hw : ∀ x y, wipe (((wipe σ vs).set a (some x)).set b (some y)) vs = wipe σ vs)
    (ht : ∀ i x, L[i]? = some x → ∀ G (Q : Bool → Hp → Prop), Same H1 G → Q (p i x) G → tt (((wipe σ vs).set a (some (.int (i : Nat)))).set b (some (.int x))) G Q)
    (hv : ∀ i x, ∀ G (Q : VK), (∀ U, G U = none → Q (.ref U) (upd G U (.tup [.int (i : Nat), .int x]))) → te (((wipe σ vs).set a (some (.int (i : Nat)))).set b (some (.int x))) G Q)
    (hd : ∀ G ts, Same H1 G → G D = some (.lst (ts.map V.ref)) → Paired (fun (t : Addr) (q : Int × Nat) => G t = some (.tup [.int (q.2 : Int), .int q.1])) ts (L.zipIdx.filter fun q => p q.2 q.1) → Qd G) :
    ∃ W : Nat → Nat → Hp → Prop, (∃ m, W 0 m (upd H1 D (.lst []))) ∧ ∀ j m H, W j m H →
      ((Ite K n).stop j H ∧ Qd H) ∨ ((Ite K n).go j H ∧ ∃ Nx : Hp → Prop, (∀ H', Nx H' → ∃ m', m' < m ∧ W (j + 1) m' H') ∧ ∀ x H', (Ite K n).yld j H x H' → gTup K 2 (gCons (gName a) (gCons (gName b) gNil)) x (wipe σ vs) H' fun σ2 H2 => wipe σ2 vs = wipe σ vs ∧ tt σ2 H2 fun b H3 =>
        if b = true then te σ2 H3 fun y H4 => ∃ acc, H4 D = some (.lst acc) ∧ acc.length < sizeLine ∧ Nx (upd H4 D (.lst (acc ++ [y]))) else Nx H3) := by
  refine lc_it (walk_enum (K := K) (a := n) (xs := L.map V.int)) (fun j G => Same H1 G ∧ ∃ ts : List Addr, G D = some (.lst (ts.map V.ref)) ∧ Paired (fun (t : Addr) (q : Int × Nat) => t ≠ D ∧ G t = some (.tup [.int (q.2 : Int), .int q.1])) ts ((L.zipIdx.take j).filter fun q => p q.2 q.1)) ⟨same_upd hD, [], upd_same, .nil⟩ (fun j G _ q => SqL.of (q.1 _ _ hn)) ?_ ?_
  · rintro j x G1 G2 hj ⟨sm, ts, hacc, hpr⟩ ⟨T, v1, v2, rfl, q1, rfl, q3, q4⟩
    have hjL : j < L.length := by rw [List.length_map] at hj; exact hj
    replace q4 : (L.map V.int)[j]? = some v2 := q4
    rw [List.getElem?_map, List.getElem?_eq_getElem hjL] at q4
    cases q4
    cases q3
    have hx : L[j]? = some L[j] := List.getElem?_eq_getElem hjL
    generalize L[j] = x at hx ⊢
    have sT := same_upd (o := .tup [V.int (j : Nat), V.int x]) q1
    have eT : (upd G1 T (.tup [V.int (j : Nat), V.int x])) T = some (.tup [V.int (j : Nat), V.int x]) := upd_same
    generalize upd G1 T (.tup [V.int (j : Nat), V.int x]) = G3 at sT eT ⊢
    refine hg T _ _ _ _ eT ⟨hw _ _, ht j x hx _ _ (sm.trans sT) ?_⟩
    have ez : L.zipIdx[j]? = some (x, j) := by
      rw [List.getElem?_zipIdx, hx]
      show some (x, 0 + j) = _
      rw [Nat.zero_add]
    rw [take_more ez, List.filter_append]
    have hacc3 := sT _ _ hacc
    have hlen : ts.length ≤ 1000 := by
      rw [Paired.length hpr]
      have l1 := List.length_filter_le (fun q => p q.2 q.1) (L.zipIdx.take j)
      rw [List.length_take, List.length_zipIdx] at l1
      omega
    cases hp : p j x with
    | true =>
      refine iteT (hv j x _ _ fun U hU => ?_)
      have ef : [(x, j)].filter (fun q => p q.2 q.1) = [(x, j)] := by rw [List.filter_cons, if_pos hp]; rfl
      rw [ef]
      have sU := same_upd (o := .tup [V.int (j : Nat), V.int x]) hU
      have hUD : U ≠ D := Ne.symm (ne_of_none hacc3 hU)
      refine ⟨_, sU _ _ hacc3, ?_, fun c o hb => ?_, ts ++ [U], by rw [upd_same, List.map_append]; rfl, ?_⟩
      · rw [List.length_map]
        exact Nat.lt_of_le_of_lt hlen (by decide)
      · rw [upd_ne (ne_of_none hb hD)]
        exact sU _ _ (sT _ _ (sm _ _ hb))
      · exact Paired.snoc (Paired.mono (fun t q h => ⟨h.1, by rw [upd_ne h.1]; exact sU _ _ (sT _ _ h.2)⟩) hpr) ⟨hUD, by rw [upd_ne hUD, upd_same]⟩
    | false =>
      refine iteF ?_
      have ef : [(x, j)].filter (fun q => p q.2 q.1) = [] := by rw [List.filter_cons, if_neg (by rw [hp]; exact Bool.false_ne_true)]; rfl
      rw [ef, List.append_nil]
      exact ⟨sm.trans sT, ts, hacc3, Paired.mono (fun t q h => ⟨h.1, sT _ _ h.2⟩) hpr⟩
  · rintro G ⟨sm, ts, hacc, hpr⟩
    rw [List.length_map, List.take_of_length_le (by rw [List.length_zipIdx]; exact Nat.le_refl _)] at hpr
    exact hd G ts sm hacc (Paired.mono (fun t q h => h.2) hpr)
end
theorem but_free {a e : Addr} {m : Nat} {H G : Hp} (b : But a H G) (sp : SpAt G a m) (h : G e = none) : H e = none := by
  cases q : H e with
  | none => rfl
  | some o =>
    by_cases ea : e = a
    · obtain ⟨o', ho', _⟩ := sp
      rw [← ea, h] at ho'
      cases ho'
    · rw [b _ _ ea q] at h
      cases h
theorem kv_dget {H : Hp} {d : Addr} {S : List Str} {pl : Str → Int} {z : Str} (h : H d = some (.dK (kvOf S pl))) (hz : z ∈ S) : DGet H d (.str z) (some (.int (pl z))) := by
  have q := DGet.k (k := (Sum.inr z : Key)) h
  rw [val_kv hz] at q
  exact q
section
variable {P : Program} {w : World} {K : PySem.W.Frag} {mg : Str → Option Value} {base : Heap}
theorem scWFault : FnScope ["numbers", "most", "row", "some", "place", "number"] ["numbers", "most"] (defScope sWFault) := ⟨rfl, rfl, rfl, by decide +kernel, rfl, by decide +kernel, by decide +kernel⟩
theorem ok_wFault {f  : Addr} {fd  : FuncData} (F : Fun K "_law_fault" "_law_fault" sWFault f fd) (B : B0 K mg) (zsort : mg "sorted" = none) :
    FnOk P w K mg base CX0 1 f fd ["numbers", "most"] spWFault := by
  refine F.ok scWFault (fun vs H Q E h => ?_) (fun cdv A outer s H vs Q E hr h => ?_)
  · obtain ⟨d, ks, g, k, rfl, _⟩ := h
    rfl
  · obtain ⟨d, ks, g, k, rfl, hd, hl, qq0⟩ := h
    have hu := hu_of hr
    refine ⟨_, pss_cons (ps_set (i := 2) scWFault.nd rfl (Or.inl rfl) (pe_callB cr_sortedI (by rfl) zsort (by decide +kernel) (pa_cons (pe_listVals rfl (pv 0) (by rfl) B.list (by decide +kernel)) pa_nil)))
      (pss_cons (ps_setLc (i := 3) (te := (tTup (tCons (tVar 4) (tCons (tVar 5) tNil)))) (own := [("place", 4), ("number", 5)]) (g := (gTup K 2 (gCons (gName 4) (gCons (gName 5) gNil)))) (tt := (tTest (tOp (rI0 fun i j => .bl (decide (i > j))) (tVar 5) (tOp (rI CMul fun i j => .int (i * j)) (tVar 4) (tVar 1))))) rfl scWFault.nd rfl rfl (by rfl) (pi_enum (by rfl) B.enum (pa_cons (pv 2) pa_nil)) (blkOk_by (N := ["numbers", "most", "row", "some", "place", "number"]) (sc := defScope sWFault) (by decide +kernel))
        (fun _ _ _ _ _ => by exact (pg_tup rfl (pgs_cons (pg_name (i := 4) scWFault.nd rfl (Or.inl rfl)) (pgs_cons (pg_name (i := 5) scWFault.nd rfl (Or.inl rfl)) pgs_nil)))) (fun _ _ _ _ _ => by exact (pts_one (pt_cmpR op_gt (pv 5) (pe_op op_mul (pv 4) (pv 1)) (nomark _)))) (fun _ _ _ _ _ => by exact (pe_tup (pa_cons (pv 4) (pa_cons (pv 5) pa_nil)))))
      (pss_one (ps_ret (pe_ifExp (pt_cmpR (op_neD hr.units) (pv 3) (pe_lst pa_nil) (nomark _)) (pe_ix ix_list (pv 3) pe_int (fun _ _ => rfl)) pe_non)))), ?_⟩
    have em : (kvOf ks g).map (·.2) = (ks.map g).map V.int := by
      unfold kvOf
      rw [List.map_map, List.map_map]
      rfl
    refine ⟨_, rfl, d, _, rfl, hd, fun M hM => ?_⟩
    rw [em]
    generalize hE : upd H M _ = H1
    have sH1 : Same H H1 := hE ▸ same_upd hM
    have eM := congrFun hE.symm M
    rw [upd_same] at eM
    clear hE
    refine ⟨M, _, rfl, SqL.of eM, fun L q hperm hrise hq => ?_⟩
    generalize hE : upd H1 q _ = H2
    have sH2 : Same H1 H2 := hE ▸ same_upd hq
    have eq := congrFun hE.symm q
    rw [upd_same] at eq
    clear hE
    have s02 := sH1.trans sH2
    have hlL : L.length ≤ 1000 := by rw [hperm.length_eq, List.length_map]; exact hl
    refine ⟨_, rfl, q, L.map V.int, rfl, SqL.of eq, fun D hD => lcT_it (fun i x => decide (x > (i : Int) * k)) eq hD hlL (fun T x y G Q e h => ⟨T, _, rfl, SqT.of e, rfl, _, _, rfl, _, _, rfl, rfl, h⟩) (fun _ _ => rfl) (fun i x hx G Q s qq => ?_) (fun i x G Q qq => ⟨_, rfl, _, rfl, by show 2 ≤ sizeLine; decide, qq⟩) fun G ts s1 hacc hpr => ?_⟩
    · have hi := (List.getElem?_eq_some_iff.mp hx).1
      exact ⟨_, rfl, _, rfl, _, rfl, _, _, rfl, rfl, Or.inl ⟨by omega, by omega⟩, _, _, rfl, rfl, _, rfl, qq⟩
    have hf := List.head?_filter (p := fun p : Int × Nat => decide (p.1 > (p.2 : Int) * k)) (l := L.zipIdx)
    have sEnd := s02.trans s1
    refine ⟨_, rfl, by show 0 ≤ sizeLine; decide, fun N hN => ?_⟩
    generalize hE : upd G N _ = G2
    have sG2 : Same G G2 := hE ▸ same_upd hN
    have eN := congrFun hE.symm N
    rw [upd_same] at eN
    clear hE
    refine ⟨.list _, .list [], .lst (SqL.of (sG2 _ _ hacc)) (dp_pairs (Paired.mono (fun t q h => sG2 _ _ h) hpr)), .lst (SqL.of eN) .nil, ?_, rfl, _, rfl, ?_⟩
    · unfold SeqAt.shaped
      simp only [PyData.canLay0, lay_pairs, PyData.depth, Bool.true_and]
      exact decide_eq_true (by have := depth_pairs (L.zipIdx.filter fun p : Int × Nat => decide (p.1 > (p.2 : Int) * k)); omega)
    cases hS : L.zipIdx.filter fun p : Int × Nat => decide (p.1 > (p.2 : Int) * k) with
    | nil =>
      rw [hS] at hf
      refine iteF (qq0 L _ _ hperm hrise ?_ (sEnd.trans sG2))
      unfold faultI
      rw [← hf]
      rfl
    | cons y r =>
      rw [hS] at hf hpr
      cases hpr with
      | cons h0 hpr =>
      rename_i t ts
      refine iteT ⟨_, rfl, D, _, 0, .ref t, rfl, rfl, SqL.of (sG2 _ _ hacc), (show atI _ ((0 : Nat) : Int) = _ from atI_nat rfl), ?_⟩
      refine qq0 L _ _ hperm hrise ?_ (sEnd.trans sG2)
      unfold faultI
      rw [← hf]
      exact ⟨t, rfl, sG2 _ _ h0⟩

end
end RK

/-! sum(range(..)) -/
namespace L2
open PySem PySem.Spec PyProof.Rows
theorem sum_rng {prog : Program} {w : World} {A : Around} {E : Value → Shared → Prop} {s : Shared} {r : Addr} {a b : Int} {t u v : Tok} {n : Nat} {Q : Value → Shared → Prop}
    (hh : A.handled = none) (hr : IsRange s.heap r a b 1 t u v) (hsm : Builtin.Range.small a b 1 = true) (hn : Builtin.Range.rangeSize a b 1 = ((n : Nat) : Int))
    (h : ∀ (h' : Heap) (tk : Nat) (t' : Tok), (∀ b o, s.heap.get? b = some o → h'.get? b = some o) → Q (.int (preSum (fun i => a + (i : Int)) n) t') { s with heap := h', toks := tk }) :
    wpAny (model prog w) A (call (.builtin "sum") [.ref r]) Q E s := by
  refine call_sum_walkAnyS ?_
  refine wpAny_pyIter_range hr hsm ?_
  refine ⟨s.heap.objs.size, _, _, _, n, _, _, fun i => a + (i : Int), rfl, (PyProof.Rows.LCg.range_walks (A := A.in1) hh a n).toS, ?_, fun b hb => ?_, fun i v h => h, fun s' t' hm => ?_⟩
  · show IsRangeIter _ _ (a + ((0 : Nat) : Int) * 1) (((n : Nat) : Int) - ((0 : Nat) : Int)) 1
    have e1 : a + ((0 : Nat) : Int) * 1 = a := by simp
    have e2 : ((n : Nat) : Int) - ((0 : Nat) : Int) = Builtin.Range.rangeSize a b 1 := by rw [hn]; omega
    rw [e1, e2]
    exact Heap.get?_push_size _ rfl
  · show b < (s.heap.push _).objs.size
    rw [Heap.size_push]
    rw [List.mem_singleton.mp hb]
    exact Nat.lt_succ_self _
  · have hk : ∀ b o, s.heap.get? b = some o → s'.heap.get? b = some o := fun b o e =>
      hm.heap b o (fun hI => absurd (Heap.lt_size e) (by rw [List.mem_singleton.mp hI]; exact Nat.lt_irrefl _)) (Heap.get?_push_of_some _ e)
    rw [Moved.eq_with hm]
    exact h s'.heap s'.toks t' hk
def tSumRg (te : St → Hp → (Int → Int → Hp → Prop) → Prop) : TE := fun σ H Q => te σ H fun a b H1 => RgOk a b ∧ Q (.int (preSum (fun i => a + (i : Int)) (b - a).toNat)) H1
section
variable {X : Cx} {e : Expr} {te : St → Hp → (Int → Int → Hp → Prop) → Prop} {p pos : Pos}
theorem pe_sumRg (hc : X.calm = true) (hg : Gl X "sum") (hm : X.mg "sum" = none) (he : PRg X e te) (hse : starEach [e] X.env = [(false, eval e X.env)] := by rfl) : PE X (.Call (.Name "sum" p) [e] [] pos) (tSumRg te) := by
  refine ⟨fun pins s σ H Q I h => ?_⟩
  refine wpAny_Call_Name_kw (ld_blt I hg hm (u := .builtin "sum") (by first | rfl | decide +kernel) ?_ (by first | decide +kernel | decide) (by first | decide +kernel | decide))
  rw [hse]
  refine PySem.callWith_builtin1 (thn (he pins s σ H _ I h) fun x s1 ⟨r, a, b, t, u, v, H1, ex, hr, I1, ok, q⟩ => ?_)
  subst ex
  obtain ⟨b1, b2, b3, b4, b5⟩ := ok
  exact sum_rng (I.ok.hd hc) hr (small_one b1 b2 b3 b4) (rangeSize_nat a b) fun h' tk t' hk => ⟨.int _, H1, I1.kept (t' := tk) hk, ⟨_, rfl⟩, q⟩
end
end L2

/-! list(enumerate(xs)) of a list -/
namespace EnL
open PySem PySem.Spec PyProof.Rows PySem.W PySem.Calls
theorem nolen_enum : typeLookup (.type "enumerate") "__len__" = pure none := by rw [typeLookup_type, builtinLookup_eq_fast]; kernel_rfl
theorem nohint_enum : typeLookup (.type "enumerate") "__length_hint__" = pure none := by rw [typeLookup_type, builtinLookup_eq_fast]; kernel_rfl
/-- the enumerate as it stands ahead of its i-th turn, while a tuple that it gave may still be out -/
def ESt (e it l S : Addr) (xs : Array Value) (i : Nat) (h : Heap) : Prop :=
  h.IsListIter it l i ∧ h.IsList l xs ∧ ((∃ old, IsEnum h e it i old) ∨ ∃ old T f oT, IsEnumHeld h e it i old T f ∧ h.get? T = some oT ∧ T ≠ e ∧ T ≠ it ∧ T ≠ S)
structure ELow (e it l S : Addr) : Prop where
  be : e < S
  bi : it < S
  bl : l < S
  eit : e ≠ it
  le : l ≠ e
  lit : l ≠ it
section
variable {prog : Program} {w : World} {A : Around} {E : Value → Shared → Prop} {s : Shared} {e it l S : Addr} {xs : Array Value}
theorem ESt.keep {i : Nat} {h h' : Heap} (x : ESt e it l S xs i h) (L : ELow e it l S) (hk : ∀ b o, b ≠ S → h.get? b = some o → h'.get? b = some o) : ESt e it l S xs i h' := by
  obtain ⟨h1, hl1, hz⟩ := x
  refine ⟨h1.at fun o e => hk _ o (Nat.ne_of_lt L.bi) e, hl1.at fun o e => hk _ o (Nat.ne_of_lt L.bl) e, ?_⟩
  rcases hz with ⟨old, hz⟩ | ⟨old, T, f, oT, hz, hT, r1, r2, r3⟩
  · exact .inl ⟨old, hk _ _ (Nat.ne_of_lt L.be) hz⟩
  · exact .inr ⟨old, T, f, oT, hk _ _ (Nat.ne_of_lt L.be) hz, hk _ _ r3 hT, r1, r2, r3⟩
theorem e_item {i : Nat} {x : Value} {Q : Option Value → Shared → Prop} (L : ELow e it l S) (hS : S < s.heap.objs.size) (st : ESt e it l S xs i s.heap) (ex : xs[i]? = some x)
    (hQ : ∀ h', ESt e it l S xs (i + 1) h' → h'.get? s.heap.objs.size = some { cls := .type "tuple", data := .seq #[.int i s.toks, x] } → h'.objs.size = s.heap.objs.size + 1 →
      (∀ c o, c ≠ e → c ≠ it → s.heap.get? c = some o → h'.get? c = some o) → Q (some (.ref s.heap.objs.size)) { s with heap := h', toks := s.toks + 1 }) :
    wpAny (model prog w) A (pyNext (.ref e)) Q E s := by
  obtain ⟨hit, hl, he⟩ := st
  have ec : ((i + 1 : Nat) : Int) = (i : Int) + 1 := by omega
  have nit : s.heap.objs.size ≠ it := let ⟨_, x, _⟩ := hit; Nat.ne_of_gt (Heap.lt_size x)
  rcases he with ⟨old, he⟩ | ⟨old, T, f, oT, he, hT, r1, r2, r3⟩
  · refine wpAny_pyNext_enum_item he hit hl ex L.eit fun h' ho hit' hT hsz hk => ?_
    exact hQ h' ⟨hit', hl.at fun o x => hk l o L.le L.lit x, .inr ⟨_, s.heap.objs.size, false, _, (by rw [ec]; exact ho), hT, Nat.ne_of_gt (Heap.lt_size he), nit, Nat.ne_of_gt hS⟩⟩ hT hsz hk
  · refine wpAny_pyNext_enum_item_held he hT r1 r2 hit hl ex L.eit fun h' ho hit' hT' hsz hk => ?_
    exact hQ h' ⟨hit', hl.at fun o x => hk l o L.le L.lit x, .inr ⟨old, T, true, oT, (by rw [ec]; exact ho), hk _ _ r1 r2 hT, r1, r2, r3⟩⟩ hT' hsz hk
theorem e_done {i : Nat} {Q : Option Value → Shared → Prop} (hh : A.handled = none) (st : ESt e it l S xs i s.heap) (hend : xs[i]? = none)
    (hQ : ∀ h', (∀ c o, c ≠ e → c ≠ it → s.heap.get? c = some o → h'.get? c = some o) → Q none { s with heap := h' }) : wpAny (model prog w) A (pyNext (.ref e)) Q E s := by
  obtain ⟨hit, hl, he⟩ := st
  rcases he with ⟨old, he⟩ | ⟨old, T, f, oT, he, hT, r1, r2, r3⟩
  · exact wpAny_pyNext_enum_end hh he hit hl hend fun h' hk => hQ h' fun c o _ c2 x => hk c o c2 x
  · exact wpAny_pyNext_enum_end_held hh he hit hl hend fun h' hk => hQ h' fun c o _ c2 x => hk c o c2 x
structure EG (xs : Array Value) (lo : Addr) (h : Heap) (as : List Addr) : Prop where
  rise : as.Pairwise (· < ·)
  above : ∀ a ∈ as, lo < a
  pairs : ∀ (j : Nat) (a : Addr), as[j]? = some a → ∃ t y, xs[j]? = some y ∧ h.get? a = some { cls := .type "tuple", data := .seq #[.int (j : Nat) t, y] }
theorem EG.there {lo : Addr} {h : Heap} {as : List Addr} (g : EG xs lo h as) {a : Addr} (ha : a ∈ as) : a < h.objs.size := by
  obtain ⟨j, hj⟩ := List.mem_iff_getElem?.mp ha
  obtain ⟨_, _, _, e⟩ := g.pairs j a hj
  exact Heap.lt_size e
theorem e_loop {R : Result → Shared → Prop} (hh : A.handled = none) (L : ELow e it l S) (hn : xs.size ≤ sizeLine) (res : Value) {h₁ : Heap}
    (hR : ∀ h' tk acc c as, (∀ b o, b ≠ S → b ≠ e → b ≠ it → h₁.get? b = some o → h'.get? b = some o) → h'.get? S = some { cls := .type "list", dict := none, data := .seq acc c, slots := #[] } → as.length = xs.size → EG xs S h' as →
      acc.toList = as.map Value.ref → R (.ok (.ret res)) { s with heap := h', toks := tk }) :
    ∀ (k i : Nat) (h : Heap) (tk c : Nat) (acc : Array Value) (as : List Addr), xs.size - i = k → i ≤ xs.size → ESt e it l S xs i h → (∀ b o, b ≠ S → b ≠ e → b ≠ it → h₁.get? b = some o → h.get? b = some o) →
      h.get? S = some { cls := .type "list", dict := none, data := .seq acc c, slots := #[] } → acc.toList = as.map Value.ref → as.length = i → EG xs S h as →
      codeAny (model prog w) A (.builtin "list.extend.loop" ⟨[.ref S, .ref e, res], []⟩) R { s with heap := h, toks := tk } := by
  have nz : S ≠ e := Nat.ne_of_gt L.be
  have n1 : S ≠ it := Nat.ne_of_gt L.bi
  have off : ∀ {b : Addr}, S < b → b ≠ e ∧ b ≠ it := fun hb => ⟨Nat.ne_of_gt (Nat.lt_trans L.be hb), Nat.ne_of_gt (Nat.lt_trans L.bi hb)⟩
  intro k
  induction k with
  | zero =>
    intro i h tk c acc as hk hi hst hkeep hS hacc hal hG
    have hin : i = xs.size := by omega
    refine codeAny_builtin PySem.F.entry_extend_loop ?_
    rw [Around.under_plainId PySem.F.plain_extend_loop _]
    show wpAny _ A.in1 (pyNext (.ref e) >>= _) _ _ _
    refine wpAny_bind (e_done (s := { s with heap := h, toks := tk }) (A := A.in1) hh hst (Array.getElem?_eq_none (by omega)) fun h' he => ?_)
    refine wpAny_pure (hR h' tk acc c as (fun b o h1 h2 h3 e => he b o h2 h3 (hkeep b o h1 h2 h3 e)) (he S _ nz n1 hS) (by omega) ⟨hG.rise, hG.above, fun j a hj => ?_⟩ hacc)
    obtain ⟨t, y, e2, e3⟩ := hG.pairs j a hj
    obtain ⟨o1, o2⟩ := off (hG.above a (List.mem_of_getElem? hj))
    exact ⟨t, y, e2, he a _ o1 o2 e3⟩
  | succ k ih =>
    intro i h tk c acc as hk hi hst hkeep hS hacc hal hG
    have hlt : i < xs.size := by omega
    have ex := Array.getElem?_eq_getElem hlt
    have hsz : acc.size = i := by rw [← Array.length_toList, hacc, List.length_map, hal]
    have hSl : S < h.objs.size := Heap.lt_size hS
    refine codeAny_builtin PySem.F.entry_extend_loop ?_
    rw [Around.under_plainId PySem.F.plain_extend_loop _]
    show wpAny _ A.in1 (pyNext (.ref e) >>= _) _ _ _
    refine wpAny_bind (e_item (s := { s with heap := h, toks := tk }) (S := S) L hSl hst ex fun h' hst' ht hz hkp => ?_)
    dsimp only at ht hz hkp ⊢
    have hS' := hkp S _ nz n1 hS
    have up : ∀ b o, b ≠ S → h'.get? b = some o → (h'.update S (Obj.mapSeq (·.push (Value.ref h.objs.size)))).get? b = some o := fun b o hb e => (Heap.get?_update_other _ _ (Ne.symm hb)).trans e
    show wpAny _ A.in1 (updateSeq S (·.push (Value.ref h.objs.size)) >>= _) _ _ _
    refine wpAny_bind ?_
    refine wpAny_updateSeq hS' rfl (wpAny_pure ⟨plainId_quiet PySem.F.plain_extend_loop _, ih (i + 1) _ (tk + 1) _ (acc.push (Value.ref h.objs.size)) (as ++ [h.objs.size]) (by omega) hlt (hst'.keep L up)
      (fun b o h1 h2 h3 e => up b o h1 (hkp b o h2 h3 (hkeep b o h1 h2 h3 e))) (Heap.get?_update_self _ hS' rfl) (by rw [Array.toList_push, hacc, List.map_append]; rfl) (by rw [List.length_append, hal]; rfl) ⟨?_, ?_, ?_⟩⟩) (by rw [hsz]; omega) (by show (acc.push (Value.ref h.objs.size)).size ≤ sizeLine + 1; rw [Array.size_push, hsz]; omega)
    · refine List.pairwise_append.mpr ⟨hG.rise, List.pairwise_singleton _ _, fun a ha b hb => ?_⟩
      rw [List.mem_singleton.mp hb]
      exact hG.there ha
    · intro a ha
      rcases List.mem_append.mp ha with ha | ha
      · exact hG.above a ha
      · rw [List.mem_singleton.mp ha]; exact hSl
    · intro j b hj
      rcases Nat.lt_trichotomy j as.length with h1 | h1 | h1
      · rw [List.getElem?_append_left h1] at hj
        obtain ⟨t', y', e2, e3⟩ := hG.pairs j b hj
        have hb := hG.above b (List.mem_of_getElem? hj)
        obtain ⟨o1, o2⟩ := off hb
        exact ⟨t', y', e2, up b _ (Nat.ne_of_gt hb) (hkp b _ o1 o2 e3)⟩
      · subst h1
        have hb : h.objs.size = b := by simpa using hj
        subst hb
        exact ⟨_, _, by rw [hal]; exact ex, up _ _ (Nat.ne_of_gt hSl) (by rw [hal]; exact ht)⟩
      · have hnone : (as ++ [h.objs.size])[j]? = none := List.getElem?_eq_none (by rw [List.length_append, List.length_singleton]; omega)
        rw [hnone] at hj; cases hj
theorem e_extend {R : Result → Shared → Prop} (hh : A.handled = none) (L : ELow e it l S) (hn : xs.size ≤ sizeLine) (res : Value) (c₀ : Nat)
    (st : ESt e it l S xs 0 s.heap) (hz : ∃ i old, IsEnum s.heap e it i old) (hS : s.heap.get? S = some { cls := .type "list", data := .seq #[] c₀ })
    (hR : ∀ h' tk acc c as, (∀ b o, b ≠ S → b ≠ e → b ≠ it → s.heap.get? b = some o → h'.get? b = some o) → h'.get? S = some { cls := .type "list", dict := none, data := .seq acc c, slots := #[] } → as.length = xs.size → EG xs S h' as →
      acc.toList = as.map Value.ref → R (.ok (.ret res)) { s with heap := h', toks := tk }) :
    wpAny (model prog w) A.in1 (Builtin.List.listExtendWith (.ref S) (.ref e) res)
      (fun fin s' => match fin with | .done f => R (.ok f) s' | .again c' => c'.quiet = true ∧ codeAny (model prog w) A c' R s') (fun e s' => R (.error e) s') s := by
  obtain ⟨i0, old, hz⟩ := hz
  have hSz : S ≠ e := Nat.ne_of_gt L.be
  have key : ∀ (h : Heap) (c₁ tk : Nat), (∀ b o, b ≠ S → s.heap.get? b = some o → h.get? b = some o) → h.get? S = some { cls := .type "list", data := .seq #[] c₁ } → codeAny (model prog w) A (.builtin "list.extend.loop" ⟨[.ref S, .ref e, res], []⟩) R { s with heap := h, toks := tk } := by
    intro h c₁ tk hk hS₁
    exact e_loop (s := s) (h₁ := s.heap) hh L hn res hR xs.size 0 h tk c₁ #[] [] (Nat.sub_zero _) (Nat.zero_le _) (st.keep L hk) (fun b o hb _ _ e => hk b o hb e) hS₁ rfl rfl
      ⟨List.Pairwise.nil, (fun _ ha => nomatch ha), (fun j a hj => by simp at hj)⟩
  have hT : s.TypeIs (.ref e) "enumerate" := ⟨_, hz, rfl⟩
  unfold Builtin.List.listExtendWith
  refine wpAny_bind (wpAny_typeOf (T := "enumerate") hT ?_)
  have h1 : Builtin.List.listSameRef (.ref S) (.ref e) = false := by simp [Builtin.List.listSameRef, hSz]
  have h2 : (Value.type "enumerate" == Value.type "list") = false := by decide
  have h3 : (Value.type "enumerate" == Value.type "tuple") = false := by decide
  simp only [h1, h2, h3, Bool.or_false, Bool.false_eq_true, if_false]
  refine wpAny_bind (wpAny_pyIter_enum hz ?_)
  refine wpAny_bind (wpAny_holding ?_)
  unfold Builtin.List.listLengthHint
  refine wpAny_bind (wpAny_specialOf hT nolen_enum ?_)
  show wpAny _ A.in1 (specialOf (Value.ref e) (Str.ofString "__length_hint__") >>= _) _ _ _
  refine wpAny_bind (wpAny_specialOf hT nohint_enum ?_)
  refine wpAny_pure ?_
  show wpAny _ A.in1 (rule "list.extend.makes-room" >>= fun _ => Builtin.List.listTouch (.ref S) >>= fun _ =>
    again (.builtin "list.extend.loop" ⟨[.ref S, .ref e, res], []⟩)) _ _ _
  refine wpAny_bind (wpAny_rule ?_)
  refine wpAny_bind ?_
  show wpAny _ _ (updateSeq S (·.push .none) >>= fun _ => updateSeq S (·.pop)) _ _ _
  refine wpAny_bind (wpAny_updateSeq hS rfl ?_)
  have hS₂ := Heap.get?_update_self (Obj.mapSeq (·.push Value.none)) hS rfl
  refine wpAny_updateSeq (hz := by seq_fits) hS₂ rfl ?_
  have hS₃ := Heap.get?_update_self (Obj.mapSeq (·.pop)) hS₂ rfl
  refine wpAny_pure ⟨plainId_quiet PySem.F.plain_extend_loop _, key _ _ _ (fun b o hb e => ?_) hS₃⟩
  exact (Heap.get?_update_other _ _ (Ne.symm hb)).trans ((Heap.get?_update_other _ _ (Ne.symm hb)).trans e)
theorem e_call {Q : Value → Shared → Prop} (hh : A.handled = none) (L : ELow e it l s.heap.objs.size) (hn : xs.size ≤ sizeLine)
    (st : ∀ S h, (∀ b o, s.heap.get? b = some o → h.get? b = some o) → ESt e it l S xs 0 h) (hz : ∃ i old, IsEnum s.heap e it i old)
    (hQ : ∀ h' tk acc c as, (∀ b o, b ≠ e → b ≠ it → s.heap.get? b = some o → h'.get? b = some o) → h'.get? s.heap.objs.size = some { cls := .type "list", dict := none, data := .seq acc c, slots := #[] } → as.length = xs.size → EG xs s.heap.objs.size h' as →
      acc.toList = as.map Value.ref → Q (.ref s.heap.objs.size) { s with heap := h', toks := tk }) :
    wpAny (model prog w) A (call (.type "list") [.ref e]) Q E s := by
  refine callType_codes (Q₁ := fun obj s₁ => obj = .ref s.heap.objs.size ∧ s₁ = { s with heap := s.heap.push { cls := .type "list", data := .seq #[] } }) PySem.F.called_list (PySem.F.typeCall_list_1 _) PySem.F.entry_list_init
    (code_list_new _ ⟨rfl, rfl⟩) fun obj s₁ h₁ => ?_
  obtain ⟨rfl, rfl⟩ := h₁
  have hS : (s.heap.push { cls := .type "list", data := .seq #[] }).get? s.heap.objs.size = some { cls := .type "list", data := .seq #[] } := Heap.get?_push_size _ rfl
  refine ⟨⟨_, hS, rfl⟩, PySem.F.args_list_init_2 _ _, ?_⟩
  show wpAny _ _ (do let old ← Builtin.List.listItems (.ref s.heap.objs.size); Builtin.List.listUpdate (.ref s.heap.objs.size) (fun _ => #[]); letGo old.toList.reverse; Builtin.List.listExtendWith (.ref s.heap.objs.size) (.ref e) .none) _ _ _
  refine wpAny_bind ?_
  unfold Builtin.List.listItems
  refine wpAny_bind (wpAny_seqItems hS rfl (wpAny_pure ?_))
  show wpAny _ _ (updateSeq s.heap.objs.size (fun _ => #[]) >>= fun _ => letGo (#[] : Array Value).toList.reverse >>= fun _ => Builtin.List.listExtendWith (.ref s.heap.objs.size) (.ref e) .none) _ _ _
  refine wpAny_bind (wpAny_updateSeq hS rfl ?_)
  have hS₂ := Heap.get?_update_self (Obj.mapSeq (fun _ => (#[] : Array Value))) hS rfl
  have oth : ∀ b o, s.heap.get? b = some o → ((s.heap.push { cls := .type "list", data := .seq #[] }).update s.heap.objs.size (Obj.mapSeq (fun _ => (#[] : Array Value)))).get? b = some o :=
    fun b o e => (Heap.get?_update_other _ _ (Nat.ne_of_gt (Heap.lt_size e))).trans (Heap.get?_push_of_some _ e)
  refine wpAny_bind (wpAny_letGo ?_)
  refine e_extend (A := A.in1) hh L hn .none _ (st _ _ oth) (let ⟨i, old, h⟩ := hz; ⟨i, old, oth _ _ h⟩) hS₂ fun h' tk acc c as hk hS' hl hG hacc => ?_
  exact ⟨rfl, hQ h' tk acc c as (fun b o h1 h2 e => hk b o (Nat.ne_of_lt (Heap.lt_size e)) h1 h2 (oth b o e)) hS' hl hG hacc⟩
end
open L2 ZiL
/-- what list(enumerate(..)) holds -/
def numd (xs : List V) : List (V × V) := xs.zipIdx.map fun q => (V.int (q.2 : Nat), q.1)
theorem numd_len {xs : List V} : (numd xs).length = xs.length := by unfold numd; rw [List.length_map, List.length_zipIdx]
theorem numd_get {xs : List V} {j : Nat} {q : V × V} (h : (numd xs)[j]? = some q) : ∃ x, xs[j]? = some x ∧ q = (V.int (j : Nat), x) := by
  unfold numd at h
  rw [List.getElem?_map, List.getElem?_zipIdx] at h
  cases e : xs[j]? with
  | none => rw [e] at h; cases h
  | some x =>
    rw [e] at h
    refine ⟨x, rfl, ?_⟩
    have h2 := Option.some.inj h
    rw [← h2]
    show (V.int ((0 + j : Nat) : Int), x) = _
    rw [Nat.zero_add]
def tListEnum (K : PySem.W.Frag) (ta : TA) : TE := fun σ H Q => ta σ H fun vs H1 => ∃ (a : Addr) (xs : List V), vs = [.ref a] ∧ SqL K H1 a xs ∧
  ∀ (H' : Hp) (p : Addr) (ts : List Addr), (∀ b o, H1 b = some o → H' b = some o) → H1 p = none → (∀ t ∈ ts, H1 t = none) → p ∉ ts → H' p = some (.lst (ts.map V.ref)) → Paired (fun (t : Addr) (q : V × V) => H' t = some (.tup [q.1, q.2])) ts (numd xs) → Q (.ref p) H'
section
variable {X : Cx} {e : Expr} {ta : TA} {p zp zpos pos : Pos}
theorem enum_laid {pins : List (Addr × Obj)} {σ : L2.St} {H : Hp} {s : Shared} {h' : Heap} {tk S : Nat} {xs : List V} {us : List Value} {acc : Array Value} {c : Nat} {as : List Addr} (I : Inv X pins σ H s) (hz : xs.length ≤ sizeLine) (rx : Vals xs us)
    (hSz : s.heap.objs.size ≤ S) (hk : ∀ b o, s.heap.get? b = some o → h'.get? b = some o) (hS : h'.get? S = some { cls := .type "list", dict := none, data := .seq acc c, slots := #[] }) (hl : as.length = xs.length) (hG : EG us.toArray S h' as) (hacc : acc.toList = as.map Value.ref) :
    ∃ H' : Hp, (∀ b o, H b = some o → H' b = some o) ∧ H S = none ∧ (∀ t ∈ as, H t = none) ∧ S ∉ as ∧ H' S = some (.lst (as.map V.ref)) ∧ Paired (fun (t : Addr) (q : V × V) => H' t = some (.tup [q.1, q.2])) as (numd xs) ∧ Inv X pins σ H' { s with heap := h', toks := tk } := by
  have hSn : S ∉ as := fun z => Nat.lt_irrefl _ (hG.above _ z)
  have nd : as.Nodup := List.Pairwise.imp (fun {a b} (h : a < b) => Nat.ne_of_lt h) hG.rise
  have new : ∀ t ∈ as, H t = none := fun t ht => I.hok.fresh (Nat.le_trans hSz (Nat.le_of_lt (hG.above t ht)))
  have newS : H S = none := I.hok.fresh hSz
  have atP := putZ_at as (numd xs) (upd H S (.lst (as.map V.ref))) (by rw [numd_len, hl]) nd
  have off : ∀ b, b ∉ as → b ≠ S → putZ (upd H S (.lst (as.map V.ref))) as (numd xs) b = H b := fun b h1 h2 => by rw [putZ_off as _ _ h1, upd_ne h2]
  have low : ∀ b o, s.heap.get? b = some o → b ∉ as ∧ b ≠ S := fun b o e => ⟨fun z => absurd (Heap.lt_size e) (Nat.not_lt.mpr (Nat.le_trans hSz (Nat.le_of_lt (hG.above b z)))), Nat.ne_of_lt (Nat.lt_of_lt_of_le (Heap.lt_size e) hSz)⟩
  have kp : ∀ b u, H b = some u → (putZ (upd H S (.lst (as.map V.ref))) as (numd xs)) b = some u := fun b u e => by
    rw [off b (fun z => by rw [new b z] at e; cases e) (fun z => by rw [z, newS] at e; cases e)]
    exact e
  have eS : putZ (upd H S (.lst (as.map V.ref))) as (numd xs) S = some (.lst (as.map V.ref)) := by rw [putZ_off as _ _ hSn, upd_same]
  refine ⟨putZ (upd H S (.lst (as.map V.ref))) as (numd xs), kp, newS, new, hSn, eS, atP, ?_⟩
  refine I.call' (ch := []) rfl ⟨fun b o q _ _ _ => hk b o q, fun b o q _ _ _ => ⟨o.slots, hk b o q⟩, fun b o q n _ => ?_, fun b o q _ => ⟨o, hk b o q⟩, fun b xs q => kp b _ q, fun b o u q => kp b _ q, fun b ps q => ⟨#[], by rw [kp b _ q]; simp⟩⟩ (fun b u q => ?_) I.bare fun b z => by simp at z
  · obtain ⟨z1, z2⟩ := low b o q
    rw [off b z1 z2]
    exact n
  · by_cases hb : b ∈ as
    · obtain ⟨j, pq, e1, e2, e3⟩ := LiI.paired_ix atP hb
      rw [e3] at q
      cases q
      obtain ⟨t, y, f2, f3⟩ := hG.pairs j b e1
      obtain ⟨x, ex, rfl⟩ := numd_get e2
      obtain ⟨u1, g1, r1⟩ := rx.get ex
      have q1 : us[j]? = some y := by simpa using f2
      rw [g1] at q1
      cases q1
      exact ⟨by show 2 ≤ sizeLine; decide, [.int (j : Nat) t, _], .cons ⟨t, rfl⟩ (.cons r1 .nil), ⟨_, f3, rfl, _, rfl⟩⟩
    · by_cases hb2 : b = S
      · rw [hb2] at q ⊢
        rw [eS] at q
        cases q
        refine ⟨by rw [List.length_map]; omega, acc.toList, c, by rw [hacc]; exact LiI.vals_refs as, ?_⟩
        rw [Array.toArray_toList]
        exact hS
      · rw [off b hb hb2] at q
        exact (I.hok b u q).stay (fun d v _ y => hk d v y) (fun d y => kp d _ y) fun d xs y => kp d _ y
/-- list(enumerate(e)) -/
theorem pe_listEnum (hc : X.calm = true) (hg : Gl X "list") (hm : X.mg "list" = none) (hv : bootBuiltins "list" = some (.type "list")) (hgz : Gl X "enumerate") (hmz : X.mg "enumerate" = none) (ha : PA X [e] ta)
    (hs : starEach [.Call (.Name "enumerate" zp) [e] [] zpos] X.env = (false, eval (.Call (.Name "enumerate" zp) [e] [] zpos) X.env) :: starEach [] X.env := by rfl)
    (hsz : starEach [e] X.env = [(false, eval e X.env)] := by rfl) :
    PE X (.Call (.Name "list" p) [.Call (.Name "enumerate" zp) [e] [] zpos] [] pos) (tListEnum X.K ta) := by
  refine ⟨fun pins s σ H Q I hq => ?_⟩
  refine wpAny_Call_Name_kw (ld_blt I hg hm hv ?_)
  refine PyProof.Rows.callWith_type1 ?_ hs rfl
  rw [hs]
  show wpAny _ _ (spliced ((false, eval (.Call (.Name "enumerate" zp) [e] [] zpos) X.env) :: backTo pos (starEach [] X.env))) _ _ s
  refine Calls.spliced_cons ?_
  refine Call_ (ld_blt I hgz hmz boot_enumerate (PyProof.Rows.callWith_type1 (thn (ha.run zpos pins s σ H _ I hq) fun us s1 ⟨vs, H1, I1, r1, q1⟩ => ?_) hsz rfl))
  obtain ⟨a, xs, ex, hqx, q⟩ := q1
  subst ex
  cases r1 with
  | cons r rr =>
    cases rr
    cases r
    obtain ⟨its, rv, p1, b1⟩ := I1.list hqx
    have la : a < s1.heap.objs.size := p1.lt
    have lx : its.length = xs.length := rv.length.symm
    refine call_enumerate_list p1.isList fun h' he hit hsize hk => ?_
    refine Calls.spliced_nil ?_
    have low : ELow (s1.heap.objs.size + 1) s1.heap.objs.size a h'.objs.size := by
      rw [hsize]
      exact ⟨Nat.lt_succ_self _, Nat.lt_add_of_pos_right (by decide), Nat.lt_of_lt_of_le la (Nat.le_add_right _ _), Nat.succ_ne_self _, Nat.ne_of_lt (Nat.lt_of_lt_of_le la (Nat.le_add_right _ _)), Nat.ne_of_lt la⟩
    refine e_call (s := { s1 with heap := h' }) (xs := its.toArray) (I1.ok.hd hc) low ?_ (fun S h hkh => ⟨hit.at fun o e => hkh _ o e, p1.isList.at fun o e => hkh _ o (hk _ o e), .inl ⟨_, hkh _ _ he⟩⟩) ⟨_, _, he⟩ fun h2' tk acc c as hk2 hS hl hG hacc => ?_
    · show its.length ≤ sizeLine
      omega
    have hkAll : ∀ b o, s1.heap.get? b = some o → h2'.get? b = some o := by
      intro b o e
      have l := Heap.lt_size e
      exact hk2 b o (Nat.ne_of_lt (Nat.lt_of_lt_of_le l (Nat.le_add_right _ _))) (Nat.ne_of_lt l) (hk b o e)
    obtain ⟨H', k1, k2, k3, k4, k5, k6, J⟩ := enum_laid (s := s1) (tk := tk) (S := h'.objs.size) (xs := xs) I1 (by omega) rv (by rw [hsize]; omega) hkAll hS (by rw [hl]; exact lx) hG hacc
    exact ⟨.ref _, H', J, rfl, q H' _ as k1 k2 k3 k4 k5 k6⟩
end
end EnL

namespace RK
open PySem L2
/-! ### all lists, the right ones -/
def rowsN (t : Nat) : Nat → List (List Int)
  | 0 => [[]]
  | k + 1 => (rowsN t k).flatMap fun row => (List.range (t + 1)).map fun x => row ++ [((x : Nat) : Int)]
theorem rows_len {t : Nat} : ∀ {n : Nat}, ∀ row ∈ rowsN t n, row.length = n ∧ ∀ x ∈ row, 0 ≤ x
  | 0, row, h => by
    rw [List.mem_singleton.mp h]
    exact ⟨rfl, fun _ z => nomatch z⟩
  | n + 1, row, h => by
    obtain ⟨r, hr, h2⟩ := List.mem_flatMap.mp h
    obtain ⟨x, hx, rfl⟩ := List.mem_map.mp h2
    obtain ⟨h3, h4⟩ := rows_len r hr
    refine ⟨by rw [List.length_append, h3]; rfl, fun y hy => ?_⟩
    rcases List.mem_append.mp hy with hy | hy
    · exact h4 y hy
    · rw [List.mem_singleton.mp hy]; omega
def RowsAt (H : Hp) (as : List Addr) (rows : List (List Int)) : Prop := Paired (fun (a : Addr) (row : List Int) => H a = some (.lst (row.map V.int))) as rows
def spWRows : Sp := fun vs H Q _ => ∃ n t : Nat, vs = [.int n, .int t] ∧ n ≤ 5 ∧ t ≤ 6 ∧ ∀ p as H', H p = none → H' p = some (.lst (as.map V.ref)) → RowsAt H' as (rowsN t n) → Same H H' → Q (.ref p) H'
theorem rowsN_len {t : Nat} : ∀ k, (rowsN t k).length = (t + 1) ^ k
  | 0 => rfl
  | k + 1 => by
    show ((rowsN t k).flatMap fun row => (List.range (t + 1)).map fun x => row ++ [((x : Nat) : Int)]).length = _
    have e : ∀ l : List (List Int), (l.flatMap fun row => (List.range (t + 1)).map fun x => row ++ [((x : Nat) : Int)]).length = l.length * (t + 1) := fun l => by
      induction l with
      | nil => simp
      | cons a l ih => rw [List.flatMap_cons, List.length_append, ih, List.length_map, List.length_range, List.length_cons, Nat.add_mul]; omega
    rw [e, rowsN_len k, Nat.pow_succ]
theorem flat_take {t : Nat} {l : List (List Int)} {j : Nat} {r : List Int} (h : l[j]? = some r) : ((l.take (j + 1)).flatMap fun row => (List.range (t + 1)).map fun x => row ++ [((x : Nat) : Int)]) = ((l.take j).flatMap fun row => (List.range (t + 1)).map fun x => row ++ [((x : Nat) : Int)]) ++ (List.range (t + 1)).map fun x => r ++ [((x : Nat) : Int)] := by
  rw [take_more h, List.flatMap_append]
  simp
theorem flat_len {t : Nat} {l : List (List Int)} {j : Nat} : ((l.take j).flatMap fun row => (List.range (t + 1)).map fun x => row ++ [((x : Nat) : Int)]).length ≤ l.length * (t + 1) := by
  have e : ∀ l : List (List Int), (l.flatMap fun row => (List.range (t + 1)).map fun x => row ++ [((x : Nat) : Int)]).length = l.length * (t + 1) := fun l => by
    induction l with
    | nil => simp
    | cons a l ih => rw [List.flatMap_cons, List.length_append, ih, List.length_map, List.length_range, List.length_cons, Nat.add_mul]; omega
  rw [e, List.length_take]
  exact Nat.mul_le_mul_right _ (Nat.min_le_right _ _)
def spWPower : Sp := fun vs H Q _ => ∃ (b : Int) (k : Nat), vs = [.int b, .int k] ∧ (-(2 ^ 64) < b ∧ b < 2 ^ 64 ∧ k ≤ 1000) ∧ Q (.int (b ^ k)) H
def spWFaultI : Sp := fun vs H Q _ => ∃ (d : Addr) (kvs : List (Key × V)) (ns : List Int) (k : Int), vs = [.ref d, .int k] ∧ H d = some (.dK kvs) ∧ kvs.map (·.2) = ns.map V.int ∧ ns.length ≤ 1000 ∧
  ∀ L v H', L.Perm ns → L.Pairwise (· ≤ ·) → FltAt H' (faultI L k) v → Same H H' → Q v H'
def rightB (m : Int) (row : List Int) : Bool := (List.range row.length).all fun t => decide (t < cnt row ((t : Int) * m))
def rightI (n : Nat) (m : Nat) : List (List Int) := (rowsN (m * (n - 1)) n).filter (rightB m)
def spRightLs : Sp := fun vs H Q _ => ∃ n m : Nat, vs = [.int n, .int m] ∧ 1 ≤ n ∧ n ≤ 5 ∧ 1 ≤ m ∧ m * (n - 1) ≤ 6 ∧ ∀ p as H', H p = none → H' p = some (.lst (as.map V.ref)) → RowsAt H' as (rightI n m) → Same H H' → Q (.ref p) H'
theorem right_iff {m : Int} {row L : List Int} (hp : L.Perm row) (hs : L.Pairwise (· ≤ ·)) : (faultI L m).isNone = rightB m row := by
  have e : (faultI L m = none) ↔ rightB m row = true := by
    rw [fault_iff hs]
    unfold rightB
    rw [List.all_eq_true]
    constructor
    · intro h t ht
      rw [List.mem_range] at ht
      have := h t (by rw [hp.length_eq]; exact ht)
      rw [cnt_perm hp] at this
      exact decide_eq_true this
    · intro h t ht
      rw [hp.length_eq] at ht
      rw [cnt_perm hp]
      exact of_decide_eq_true (h t (List.mem_range.mpr ht))
  cases h : faultI L m with
  | none => rw [e.mp h]; rfl
  | some p =>
    cases hr : rightB m row with
    | false => rfl
    | true => rw [e.mpr hr] at h; cases h
def ixKv (row : List Int) : List (Key × V) := row.zipIdx.map fun q => ((Sum.inl (q.2 : Int) : Key), V.int q.1)
theorem ix_snd {row : List Int} : (ixKv row).map (·.2) = row.map V.int := by
  unfold ixKv
  rw [List.map_map]
  refine List.ext_getElem? fun j => ?_
  rw [List.getElem?_map, List.getElem?_map, List.getElem?_zipIdx]
  cases row[j]? <;> rfl
theorem ix_nodup {row : List Int} : ((ixKv row).map (·.1)).Nodup := by
  have e : (ixKv row).map (·.1) = (List.range row.length).map fun j => (Sum.inl ((j : Nat) : Int) : Key) := by
    unfold ixKv
    rw [List.map_map]
    refine List.ext_getElem (by simp) fun j h1 h2 => ?_
    simp
  rw [e]
  rw [List.Nodup, List.pairwise_map]
  exact List.nodup_range.imp fun h e => h (by have := Sum.inl.inj e; omega)
theorem paired_of_map {α β γ : Type} {F : α → γ → Prop} {f : β → γ} : ∀ {l : List α} {m : List β}, Paired F l (m.map f) → Paired (fun a b => F a (f b)) l m
  | [], [], _ => .nil
  | _ :: _, _ :: _, .cons h r => .cons h (paired_of_map r)
  | [], _ :: _, h => by cases h
  | _ :: _, [], h => by cases h
theorem ix_pairs {H : Hp} {ts : List Addr} {row : List Int} (h : Paired (fun (t : Addr) (q : V × V) => H t = some (.tup [q.1, q.2])) ts (EnL.numd (row.map V.int))) : Paired (fun (t : Addr) (kv : Key × V) => H t = some (.tup [kV kv.1, kv.2])) ts (ixKv row) := by
  have e : EnL.numd (row.map V.int) = (ixKv row).map fun kv => (kV kv.1, kv.2) := by
    unfold EnL.numd ixKv
    rw [List.map_map]
    refine List.ext_getElem? fun j => ?_
    rw [List.getElem?_map, List.getElem?_zipIdx, List.getElem?_map, List.getElem?_map, List.getElem?_zipIdx]
    cases row[j]? <;> rfl
  rw [e] at h
  exact paired_of_map (F := fun (t : Addr) (q : V × V) => H t = some (.tup [q.1, q.2])) h
section
variable {P : Program} {w : World} {K : PySem.W.Frag} {mg : Str → Option Value} {base : Heap} {C CP CM CN fN : Addr}
theorem scAllLists : FnScope ["many", "top", "found", "turn", "longer", "row", "number"] ["many", "top"] (defScope sAllLists) := ⟨rfl, rfl, rfl, by decide +kernel, rfl, by decide +kernel, by decide +kernel⟩
theorem ok_allLists {f  : Addr} {fd  : FuncData} (F : Fun K "_law_all_lists" "_law_all_lists" sAllLists f fd) (B : B0 K mg) :
    FnOk P w K mg base CX0 1 f fd ["many", "top"] spWRows := by
  refine F.ok scAllLists (fun vs H Q E h => ?_) (fun cdv A outer s H vs Q E hr h => ?_)
  · obtain ⟨n, t, rfl, _⟩ := h
    rfl
  · obtain ⟨n, t, rfl, hn, ht, q⟩ := h
    have hu := hu_of hr
    refine ⟨_, pss_cons (ps_set (i := 2) scAllLists.nd rfl (Or.inl rfl) (pe_lst (pa_cons (pe_lst pa_nil) pa_nil)))
      (pss_cons (ps_for PassesOwn.never rfl (pi_range1 (by rfl) B.range (pa_cons (pv 0) pa_nil)) (pg_name (i := 3) scAllLists.nd rfl (Or.inl rfl))
        (pss_cons (ps_set (i := 4) scAllLists.nd rfl (Or.inl rfl) (pe_lst pa_nil))
      (pss_cons (ps_for PassesOwn.never rfl (pi_list (pv 2)) (pg_name (i := 5) scAllLists.nd rfl (Or.inr rfl))
        (pss_one (ps_expr (pe_bm PySem.F.plainAttrs_list PySem.F.slot_list_extend PySem.F.type_list_extend mt_extend (pv 4) (pa_cons (pe_lc (te := (tOp rCat (tVar 5) (tLst (tCons (tVar 6) tNil)))) (own := [("number", 6)]) (g := (gName 6)) (tt := tYes) rfl scAllLists.nd (pi_range1 (by rfl) B.range (pa_cons (pe_op op_add (pv 1) pe_int) pa_nil)) (blkOk_by (N := ["many", "top", "found", "turn", "longer", "row", "number"]) (sc := defScope sAllLists) (by decide +kernel))
          (fun _ _ _ _ _ => (pg_name (i := 6) scAllLists.nd rfl (Or.inl rfl))) (fun _ _ _ _ _ => pts_nil) (fun _ _ _ _ _ => by exact (pe_op op_cat (pv 5) (pe_lst (pa_cons (pv 6) pa_nil))))) pa_nil)))))
      (pss_one (ps_set (i := 2) scAllLists.nd rfl (Or.inl rfl) (pv 4))))))
      (pss_one (ps_ret (pv 2)))), ?_⟩
    have hp4 : ∀ k, k ≤ 5 → (t + 1) ^ k ≤ 16807 := fun k hk => by
      have h1 : (t + 1) ^ k ≤ 7 ^ k := Nat.pow_le_pow_left (by omega) k
      have h2 : 7 ^ k ≤ 7 ^ 5 := Nat.pow_le_pow_right (by decide) hk
      have h3 : (7 : Nat) ^ 5 = 16807 := by decide
      omega
    refine ⟨by show 0 ≤ sizeLine; decide, fun L0 hL0 => ?_⟩
    generalize hE : upd H L0 _ = H1
    have sH1 : Same H H1 := hE ▸ same_upd hL0
    have eL0 := congrFun hE.symm L0
    rw [upd_same] at eL0
    clear hE
    refine ⟨by show 1 ≤ sizeLine; decide, fun F0 hF0 => ?_⟩
    generalize hE : upd H1 F0 _ = H2
    have sH2 : Same H1 H2 := hE ▸ same_upd hF0
    have eF0 := congrFun hE.symm F0
    rw [upd_same] at eF0
    clear hE
    have s02 := sH1.trans sH2
    replace eF0 : H2 F0 = some (.lst ([L0].map V.ref)) := eF0
    refine ⟨_, rfl, n, rfl, by omega, by omega, for_range (n := n) (fun i σ G => ∃ (F1 : Addr) (w3 w4 w5 : Option V) (as : List Addr), σ = [some (.int n), some (.int t), some (.ref F1), w3, w4, w5, none] ∧ Same H G ∧ H F1 = none ∧ G F1 = some (.lst (as.map V.ref)) ∧ RowsAt G as (rowsN t i)) ⟨F0, none, none, none, [L0], rfl, s02, sH1.free hF0, eF0, .cons (sH2 _ _ eL0) .nil⟩ ?_ ?_⟩
    · rintro i σ G hi ⟨F1, w3, w4, w5, as, rfl, sG, hF1, eF1, hra⟩
      have hal : as.length = (t + 1) ^ i := by rw [Paired.length hra, rowsN_len]
      have hpi := hp4 (i + 1) (by omega)
      rw [Nat.pow_succ] at hpi
      refine ⟨by show 0 ≤ sizeLine; decide, fun L hL => ?_⟩
      generalize hE : upd G L _ = G1
      have sG1 : Same G G1 := hE ▸ same_upd hL
      have eL := congrFun hE.symm L
      rw [upd_same] at eL
      clear hE
      have hLF : F1 ≠ L := ne_of_none eF1 hL
      refine ⟨_, rfl, F1, rfl, ⟨_, SqL.of (sG1 _ _ eF1)⟩, for_list (xs := as.map V.ref) (fun j σ G' => ∃ (w5 : Option V) (bs : List Addr), σ = [some (.int n), some (.int t), some (.ref F1), some (.int (0 + (i : Nat))), some (.ref L), w5, none] ∧ Same G G' ∧ G' L = some (.lst (bs.map V.ref)) ∧ Paired (fun (a : Addr) (row : List Int) => a ≠ L ∧ G' a = some (.lst (row.map V.int))) bs (((rowsN t i).take j).flatMap fun row => (List.range (t + 1)).map fun x => row ++ [((x : Nat) : Int)])) ⟨_, [], rfl, sG1, eL, .nil⟩ (fun j σ G' _ ⟨_, _, _, e, _⟩ => SqL.of (e _ _ eF1)) ?_ ?_⟩
      · rintro j x σ G2 hx ⟨w5', bs, rfl, sG2, eL2, hbs⟩
        obtain ⟨a, ha, rfl⟩ := get_map hx
        have hj : j < as.length := (List.getElem?_eq_some_iff.mp ha).1
        have hjr : j < (rowsN t i).length := by rw [← Paired.length hra]; exact hj
        have hr : (rowsN t i)[j]? = some (rowsN t i)[j] := List.getElem?_eq_getElem hjr
        have ea : G a = some (.lst ((rowsN t i)[j].map V.int)) := by
          obtain ⟨r', h1, h2⟩ := paired_get hra ha
          rw [hr] at h1
          cases h1
          exact h2
        have hrl := (rows_len _ (List.mem_of_getElem? hr)).1
        generalize (rowsN t i)[j] = r at hr ea hrl
        have ea2 := sG2 _ _ ea
        have hbl : bs.length ≤ 16807 := by
          rw [Paired.length hbs]
          refine Nat.le_trans flat_len ?_
          rw [rowsN_len]
          exact hpi
        refine ⟨_, rfl, .inl ⟨rfl, _, SqL.of eL2⟩, ?_⟩
        refine ⟨_, rfl, _, _, rfl, rfl, _, rfl, by omega, by omega, fun D hD => ?_⟩
        have hDL : L ≠ D := ne_of_none eL2 hD
        rw [show (((t : Nat) : Int) + 1).toNat = t + 1 by omega]
        refine lc_it (walk_range (lo := 0) (n := t + 1)) (fun k G3 => Same G2 G3 ∧ ∃ cs : List Addr, G3 D = some (.lst (cs.map V.ref)) ∧ Paired (fun (a : Addr) (row : List Int) => a ≠ D ∧ a ≠ L ∧ G3 a = some (.lst (row.map V.int))) cs ((List.range k).map fun x => r ++ [((x : Nat) : Int)])) ⟨same_upd hD, [], upd_same, .nil⟩ (fun _ _ _ _ => True.intro) ?_ ?_
        · rintro k x G4 G3 hk ⟨sm, cs, hacc, hcs⟩ ⟨rfl, rfl⟩
          have ea3 := sm _ _ ea2
          refine ⟨rfl, tyes ?_⟩
          refine ⟨_, rfl, _, rfl, by show 1 ≤ sizeLine; decide, fun N hN => ?_⟩
          generalize hE : upd G3 N _ = G5
          have sG5 : Same G3 G5 := hE ▸ same_upd hN
          have eN := congrFun hE.symm N
          rw [upd_same] at eN
          clear hE
          refine ⟨a, N, _, _, rfl, rfl, sG5 _ _ ea3, eN, by rw [List.length_map, hrl]; exact Nat.le_trans (show i + 1 ≤ 6 by omega) (by decide), fun M hM => ?_⟩
          generalize hE : upd G5 M _ = G6
          have sG6 : Same G5 G6 := hE ▸ same_upd hM
          have eM := congrFun hE.symm M
          rw [upd_same] at eM
          clear hE
          have s36 := sG5.trans sG6
          have hMD : M ≠ D := Ne.symm (ne_of_none (sG5 _ _ hacc) hM)
          have hML : M ≠ L := Ne.symm (ne_of_none (sG5 _ _ (sm _ _ eL2)) hM)
          have eM' : G6 M = some (.lst ((r ++ [((k : Nat) : Int)]).map V.int)) := by
            rw [eM, List.map_append]
            simp
          have hcl : cs.length = k := by rw [Paired.length hcs, List.length_map, List.length_range]
          refine ⟨_, s36 _ _ hacc, by rw [List.length_map, hcl]; exact Nat.lt_of_lt_of_le hk (Nat.le_trans (show t + 1 ≤ 7 by omega) (by decide)), fun b u hb => ?_, cs ++ [M], by rw [upd_same, List.map_append]; rfl, ?_⟩
          · rw [upd_ne (ne_of_none hb hD)]
            exact s36 _ _ (sm _ _ hb)
          · rw [List.range_succ, List.map_append]
            refine Paired.snoc (Paired.mono (fun c row ⟨q1, q2, q3⟩ => ⟨q1, q2, by rw [upd_ne q1]; exact s36 _ _ q3⟩) hcs) ⟨hMD, hML, by rw [upd_ne hMD]; exact eM'⟩
        · rintro G3 ⟨sm, cs, hacc, hcs⟩
          have hcl : cs.length = t + 1 := by rw [Paired.length hcs, List.length_map, List.length_range]
          have eL3 := sm _ _ eL2
          refine st_nil ⟨L, D, _, _, rfl, rfl, eL3, hacc, by rw [List.length_map, List.length_map, hcl]; exact Nat.le_trans (show bs.length + (t + 1) ≤ 20000 by omega) (by decide), ?_⟩
          have hLG : G L = none := hL
          refine ⟨_, bs ++ cs, rfl, fun b o e => ?_, by rw [upd_same, List.map_append], ?_⟩
          · rw [upd_ne (ne_of_none e hLG)]
            exact sm _ _ (sG2 _ _ e)
          · rw [flat_take hr]
            exact paired_app (Paired.mono (fun c row ⟨q1, q2⟩ => ⟨q1, by rw [upd_ne q1]; exact sm _ _ q2⟩) hbs) (Paired.mono (fun c row ⟨_, q2, q3⟩ => ⟨q2, by rw [upd_ne q2]; exact q3⟩) hcs)
      · rintro σ G2 ⟨w5', bs, rfl, sG2, eL2, hbs⟩
        rw [List.length_map, Paired.length hra, List.take_length] at hbs
        exact ⟨_, rfl, L, _, _, _, bs, rfl, sG.trans sG2, sG.free hL, eL2, Paired.mono (fun _ _ h => h.2) hbs⟩
    · rintro σ G ⟨F1, w3, w4, w5, as, rfl, sG, hF1, eF1, hra⟩
      exact ⟨_, rfl, q F1 as G hF1 eF1 hra sG⟩

theorem scWPower : FnScope ["base", "times", "found", "turn"] ["base", "times"] (defScope sWPower) := ⟨rfl, rfl, rfl, by decide +kernel, rfl, by decide +kernel, by decide +kernel⟩
theorem ok_wPower {f  : Addr} {fd  : FuncData} (F : Fun K "_law_power" "_law_power" sWPower f fd) (B : B0 K mg) :
    FnOk P w K mg base CX0 1 f fd ["base", "times"] spWPower := by
  refine F.ok scWPower (fun vs H Q E h => ?_) (fun cdv A outer s H vs Q E hr h => ?_)
  · obtain ⟨b, k, rfl, _⟩ := h
    rfl
  · obtain ⟨b, k, rfl, hb, q⟩ := h
    have hu := hu_of hr
    refine ⟨_, pss_cons (ps_set (i := 2) scWPower.nd rfl (Or.inl rfl) pe_int)
      (pss_cons (ps_for PassesOwn.never rfl (pi_range1 (by rfl) B.range (pa_cons (pv 1) pa_nil)) (pg_name (i := 3) scWPower.nd rfl (Or.inl rfl))
        (pss_one (ps_set (i := 2) scWPower.nd rfl (Or.inl rfl) (pe_op op_mul (pv 2) (pv 0)))))
      (pss_one (ps_ret (pv 2)))), ?_⟩
    refine ⟨_, rfl, (k : Int), rfl, by omega, by omega, ?_⟩
    rw [Int.toNat_natCast]
    refine for_range (n := k) (fun i σ G => ∃ w3, σ = [some (.int b), some (.int k), some (.int (b ^ i)), w3] ∧ G = H) ⟨none, by rw [Int.pow_zero]; rfl, rfl⟩ ?_ ?_
    · rintro i σ G hi ⟨w3, rfl, rfl⟩
      refine ⟨_, rfl, _, rfl, _, _, rfl, rfl, Or.inr ⟨hb.1, hb.2.1⟩, some (.int (0 + (i : Nat))), ?_, rfl⟩
      rw [Int.pow_succ]
      rfl
    · rintro σ G ⟨w3, rfl, rfl⟩
      exact ⟨_, rfl, q⟩
theorem ok_wFaultI {f  : Addr} {fd  : FuncData} (F : Fun K "_law_fault" "_law_fault" sWFault f fd) (B : B0 K mg) (zsort : mg "sorted" = none) :
    FnOk P w K mg base CX0 1 f fd ["numbers", "most"] spWFaultI := by
  refine F.ok scWFault (fun vs H Q E h => ?_) (fun cdv A outer s H vs Q E hr h => ?_)
  · obtain ⟨d, kvs, ns, k, rfl, _⟩ := h
    rfl
  · obtain ⟨d, kvs, ns, k, rfl, hd, em, hl, qq0⟩ := h
    have hu := hu_of hr
    refine ⟨_, pss_cons (ps_set (i := 2) scWFault.nd rfl (Or.inl rfl) (pe_callB cr_sortedI (by rfl) zsort (by decide +kernel) (pa_cons (pe_listVals rfl (pv 0) (by rfl) B.list (by decide +kernel)) pa_nil)))
      (pss_cons (ps_setLc (i := 3) (te := (tTup (tCons (tVar 4) (tCons (tVar 5) tNil)))) (own := [("place", 4), ("number", 5)]) (g := (gTup K 2 (gCons (gName 4) (gCons (gName 5) gNil)))) (tt := (tTest (tOp (rI0 fun i j => .bl (decide (i > j))) (tVar 5) (tOp (rI CMul fun i j => .int (i * j)) (tVar 4) (tVar 1))))) rfl scWFault.nd rfl rfl (by rfl) (pi_enum (by rfl) B.enum (pa_cons (pv 2) pa_nil)) (blkOk_by (N := ["numbers", "most", "row", "some", "place", "number"]) (sc := defScope sWFault) (by decide +kernel))
        (fun _ _ _ _ _ => by exact (pg_tup rfl (pgs_cons (pg_name (i := 4) scWFault.nd rfl (Or.inl rfl)) (pgs_cons (pg_name (i := 5) scWFault.nd rfl (Or.inl rfl)) pgs_nil)))) (fun _ _ _ _ _ => by exact (pts_one (pt_cmpR op_gt (pv 5) (pe_op op_mul (pv 4) (pv 1)) (nomark _)))) (fun _ _ _ _ _ => by exact (pe_tup (pa_cons (pv 4) (pa_cons (pv 5) pa_nil)))))
      (pss_one (ps_ret (pe_ifExp (pt_cmpR (op_neD hr.units) (pv 3) (pe_lst pa_nil) (nomark _)) (pe_ix ix_list (pv 3) pe_int (fun _ _ => rfl)) pe_non)))), ?_⟩
    refine ⟨_, rfl, d, _, rfl, hd, fun M hM => ?_⟩
    rw [em]
    generalize hE : upd H M _ = H1
    have sH1 : Same H H1 := hE ▸ same_upd hM
    have eM := congrFun hE.symm M
    rw [upd_same] at eM
    clear hE
    refine ⟨M, _, rfl, SqL.of eM, fun L q hperm hrise hq => ?_⟩
    generalize hE : upd H1 q _ = H2
    have sH2 : Same H1 H2 := hE ▸ same_upd hq
    have eq := congrFun hE.symm q
    rw [upd_same] at eq
    clear hE
    have s02 := sH1.trans sH2
    have hlL : L.length ≤ 1000 := by rw [hperm.length_eq]; exact hl
    refine ⟨_, rfl, q, L.map V.int, rfl, SqL.of eq, fun D hD => lcT_it (fun i x => decide (x > (i : Int) * k)) eq hD hlL (fun T x y G Q e h => ⟨T, _, rfl, SqT.of e, rfl, _, _, rfl, _, _, rfl, rfl, h⟩) (fun _ _ => rfl) (fun i x hx G Q s qq => ?_) (fun i x G Q qq => ⟨_, rfl, _, rfl, by show 2 ≤ sizeLine; decide, qq⟩) fun G ts s1 hacc hpr => ?_⟩
    · have hi := (List.getElem?_eq_some_iff.mp hx).1
      exact ⟨_, rfl, _, rfl, _, rfl, _, _, rfl, rfl, Or.inl ⟨by omega, by omega⟩, _, _, rfl, rfl, _, rfl, qq⟩
    have hf := List.head?_filter (p := fun p : Int × Nat => decide (p.1 > (p.2 : Int) * k)) (l := L.zipIdx)
    have sEnd := s02.trans s1
    refine ⟨_, rfl, by show 0 ≤ sizeLine; decide, fun N hN => ?_⟩
    generalize hE : upd G N _ = G2
    have sG2 : Same G G2 := hE ▸ same_upd hN
    have eN := congrFun hE.symm N
    rw [upd_same] at eN
    clear hE
    refine ⟨.list _, .list [], .lst (SqL.of (sG2 _ _ hacc)) (dp_pairs (Paired.mono (fun t q h => sG2 _ _ h) hpr)), .lst (SqL.of eN) .nil, ?_, rfl, _, rfl, ?_⟩
    · unfold SeqAt.shaped
      simp only [PyData.canLay0, lay_pairs, PyData.depth, Bool.true_and]
      exact decide_eq_true (by have := depth_pairs (L.zipIdx.filter fun p : Int × Nat => decide (p.1 > (p.2 : Int) * k)); omega)
    cases hS : L.zipIdx.filter fun p : Int × Nat => decide (p.1 > (p.2 : Int) * k) with
    | nil =>
      rw [hS] at hf
      refine iteF (qq0 L _ _ hperm hrise ?_ (sEnd.trans sG2))
      unfold faultI
      rw [← hf]
      rfl
    | cons y r =>
      rw [hS] at hf hpr
      cases hpr with
      | cons h0 hpr =>
      rename_i t ts
      refine iteT ⟨_, rfl, D, _, 0, .ref t, rfl, rfl, SqL.of (sG2 _ _ hacc), (show atI _ ((0 : Nat) : Int) = _ from atI_nat rfl), ?_⟩
      refine qq0 L _ _ hperm hrise ?_ (sEnd.trans sG2)
      unfold faultI
      rw [← hf]
      exact ⟨t, rfl, sG2 _ _ h0⟩

theorem scRightLs : FnScope ["many", "most", "rows", "row"] ["many", "most"] (defScope sRightLs) := ⟨rfl, rfl, rfl, by decide +kernel, rfl, by decide +kernel, by decide +kernel⟩
theorem ok_rightLs {f fF fA : Addr} {fd fdF fdA : FuncData} (F : Fun K "_law_right_lists" "_law_right_lists" sRightLs f fd) (B : B0 K mg)
    (GF : FnOk P w K mg base CX0 1 fF fdF ["numbers", "most"] spWFaultI) (bF : Binds K fdF ["numbers", "most"] []) (gF : mg "_law_fault" = some (.ref fF)) (kF9 : PySem.W.keepIn K (.ref fF) = true)
    (GA : FnOk P w K mg base CX0 1 fA fdA ["many", "top"] spWRows) (bA : Binds K fdA ["many", "top"] []) (gA : mg "_law_all_lists" = some (.ref fA)) (kA9 : PySem.W.keepIn K (.ref fA) = true) :
    FnOk P w K mg base CX0 2 f fd ["many", "most"] spRightLs := by
  refine F.ok scRightLs (fun vs H Q E h => ?_) (fun cdv A outer s H vs Q E hr h => ?_)
  · obtain ⟨n, m, rfl, _⟩ := h
    rfl
  · obtain ⟨n, m, rfl, h1, h2, h3, h4, q⟩ := h
    have hu := hu_of hr
    have hr1 : Room 1 _ := hr.mono (by decide)
    refine ⟨_, pss_cons (ps_set (i := 2) scRightLs.nd rfl (Or.inl rfl) (pe_call GA hr1 (by rfl) gA kA9 bA .nil pass0 (pa_cons (pv 0) (pa_cons (pe_op op_mul (pv 1) (pe_op op_sub (pv 0) pe_int)) pa_nil))))
      (pss_one (ps_ret (pe_lc (te := (tVar 3)) (own := [("row", 3)]) (g := (gName 3)) (tt := (tTest (tOp rIsN (tCall spWFaultI [] E0 (tCons (tCB (rDictP K) (tCons (EnL.tListEnum K (tCons (tVar 3) tNil)) tNil)) (tCons (tVar 1) tNil))) (L2.tC .non)))) rfl scRightLs.nd (pi_list (pv 2)) (blkOk_by (N := ["many", "most", "rows", "row"]) (sc := defScope sRightLs) (by decide +kernel))
          (fun _ _ _ _ _ => (pg_name (i := 3) scRightLs.nd rfl (Or.inl rfl))) (fun _ _ _ _ _ => by exact (pts_one (pt_cmpR op_isN (pe_call GF hr1 (by rfl) gF kF9 bF .nil pass0 (pa_cons (pe_callTy (call_dictP rfl) (by rfl) B.dict (by decide +kernel) (pa_cons (EnL.pe_listEnum rfl (by rfl) B.list (by decide +kernel) (by rfl) B.enum (pa_cons (pv 3) pa_nil)) pa_nil)) (pa_cons (pv 1) pa_nil))) pe_non (nomark _)))) (fun _ _ _ _ _ => by exact (pv 3))))), ?_⟩
    have ht6 : ((m : Int) * ((n : Int) - 1)) = ((m * (n - 1) : Nat) : Int) := by
      rw [Int.natCast_mul]
      congr 1
      omega
    refine ⟨_, rfl, _, rfl, _, rfl, _, _, rfl, rfl, _, _, rfl, rfl, Or.inr ⟨by omega, by omega⟩, n, m * (n - 1), by show [V.int n, V.int ((m : Int) * ((n : Int) - 1))] = _; rw [ht6], h2, h4, fun R as H1 hR0 eR hra sH1 => ?_⟩
    have hal : as.length = (m * (n - 1) + 1) ^ n := by rw [Paired.length hra, rowsN_len]
    have hsmall : as.length ≤ 16807 := by
      rw [hal]
      have h1 : (m * (n - 1) + 1) ^ n ≤ 7 ^ n := Nat.pow_le_pow_left (by omega) n
      have h2 : 7 ^ n ≤ 7 ^ 5 := Nat.pow_le_pow_right (by decide) h2
      have h3 : (7 : Nat) ^ 5 = 16807 := by decide
      omega
    refine ⟨_, rfl, R, rfl, ⟨_, SqL.of eR⟩, fun D hD => ?_⟩
    refine lc_it (walk_list (K := K) (a := R) (xs := as.map V.ref)) (fun j G => Same H1 G ∧ ∃ ts : List Addr, G D = some (.lst (ts.map V.ref)) ∧ Paired (fun (a : Addr) (row : List Int) => a ≠ D ∧ G a = some (.lst (row.map V.int))) ts (((rowsN (m * (n - 1)) n).take j).filter (rightB m))) ⟨same_upd hD, [], upd_same, .nil⟩ (fun j G _ p => SqL.of (p.1 _ _ eR)) ?_ ?_
    · rintro j x G1 G2 hj ⟨sm, ts, hacc, hpr⟩ ⟨rfl, hx⟩
      obtain ⟨a, ha, rfl⟩ := get_map hx
      obtain ⟨row, hrow, hrowa⟩ := paired_get hra ha
      have hrl := (rows_len _ (List.mem_of_getElem? hrow)).1
      have eaG := sm _ _ hrowa
      refine ⟨rfl, ?_⟩
      rw [take_more hrow, List.filter_append]
      refine ⟨_, rfl, a, row.map V.int, rfl, SqL.of eaG, fun G3 p us s3 hp hus hpus e3 pr3 => ?_⟩
      refine ⟨p, us, ixKv row, rfl, SqL.of e3, Paired.mono (fun t kv h => SqT.of h) (ix_pairs pr3), fun d hd => ?_⟩
      rw [merge_self ix_nodup]
      have sd := same_upd (o := .dK (ixKv row)) hd
      refine ⟨_, rfl, d, ixKv row, row, _, rfl, upd_same, ix_snd, by rw [hrl]; omega, fun L v G4 hperm hsort hflt s4 => ⟨rfl, _, rfl, ?_⟩⟩
      have hr := right_iff (m := m) hperm hsort
      have sAll : Same G2 G4 := Same.trans s3 (sd.trans s4)
      have keep : Paired (fun (a : Addr) (row : List Int) => a ≠ D ∧ G4 a = some (.lst (row.map V.int))) ts (((rowsN (m * (n - 1)) n).take j).filter (rightB m)) := Paired.mono (fun t q h => ⟨h.1, sAll _ _ h.2⟩) hpr
      have hlen : ts.length ≤ 16807 := by
        rw [Paired.length hpr]
        refine Nat.le_trans (List.length_filter_le _ _) ?_
        rw [List.length_take, rowsN_len, ← hal]
        omega
      cases hf : faultI L m with
      | none =>
        rw [hf] at hflt hr
        rw [show v = .non from hflt]
        have ef : [row].filter (rightB m) = [row] := by rw [List.filter_cons, if_pos (show rightB m row = true from hr.symm)]; rfl
        rw [ef]
        refine iteT ⟨_, rfl, _, sAll _ _ hacc, ?_, fun c o hb => ?_, ts ++ [a], by rw [upd_same, List.map_append]; rfl, ?_⟩
        · rw [List.length_map]; exact Nat.lt_of_le_of_lt hlen (by decide)
        · rw [upd_ne (ne_of_none hb hD)]
          exact sAll _ _ (sm _ _ hb)
        · have haD : a ≠ D := ne_of_none hrowa hD
          exact Paired.snoc (Paired.mono (fun t q h => ⟨h.1, by rw [upd_ne h.1]; exact h.2⟩) keep) ⟨haD, by rw [upd_ne haD]; exact sAll _ _ eaG⟩
      | some pr =>
        rw [hf] at hflt hr
        obtain ⟨t, rfl, _⟩ := hflt
        have ef : [row].filter (rightB m) = [] := by rw [List.filter_cons, if_neg (by rw [← hr]; exact Bool.false_ne_true)]; rfl
        rw [ef, List.append_nil]
        exact iteF ⟨fun c o hb => sAll _ _ (sm _ _ hb), ts, sAll _ _ hacc, keep⟩
    · rintro G ⟨sm, ts, hacc, hpr⟩
      rw [List.length_map, Paired.length hra, List.take_length] at hpr
      exact q D ts G (sH1.free hD) hacc (Paired.mono (fun _ _ h => h.2) hpr) (sH1.trans sm)

end
end RK

/-! list(d.items()) of a dict of either kind -/
namespace LiA
open PySem PySem.Spec PyProof.Rows PySem.W L2
section
variable {prog : Program} {w : World} {A : Around} {E : Value → Shared → Prop} {s : Shared} {r d : Addr} {es : Array DictEntry} {ep : Nat}
theorem initI {R : Result → Shared → Prop} (hh : A.handled = none) (hv : s.heap.IsItemsView r d) (hm : DT.Raw s.heap d es ep) (S : Addr) (hSr : S ≠ r) (hSd : d ≠ S) (hS : s.heap.get? S = some { cls := .type "list", data := .seq #[] })
    (hR : ∀ h' tk acc c as, (∀ b o, b ≠ S → s.heap.get? b = some o → h'.get? b = some o) → h'.get? S = some { cls := .type "list", dict := none, data := .seq acc c, slots := #[] } → as.length = es.size → DT.Made es S h' as →
      acc.toList = as.map Value.ref → R (.ok (.ret .none)) { s with heap := h', toks := tk }) (hn : es.size ≤ sizeLine) :
    wpAny (model prog w) A.in1 (Builtin.«list.__init__» ⟨[.ref S, .ref r], []⟩)
      (fun fin s' => match fin with | .done f => R (.ok f) s' | .again c' => c'.quiet = true ∧ codeAny (model prog w) A c' R s') (fun e s' => R (.error e) s') s := by
  show wpAny _ _ (do let old ← Builtin.List.listItems (.ref S); Builtin.List.listUpdate (.ref S) (fun _ => #[]); letGo old.toList.reverse; Builtin.List.listExtendWith (.ref S) (.ref r) .none) _ _ s
  refine wpAny_bind ?_
  unfold Builtin.List.listItems
  refine wpAny_bind (wpAny_seqItems hS rfl (wpAny_pure ?_))
  show wpAny _ _ (updateSeq S (fun _ => #[]) >>= fun _ => letGo (#[] : Array Value).toList.reverse >>= fun _ => Builtin.List.listExtendWith (.ref S) (.ref r) .none) _ _ s
  refine wpAny_bind (wpAny_updateSeq hS rfl ?_)
  have hS₂ := Heap.get?_update_self (Obj.mapSeq (fun _ => (#[] : Array Value))) hS rfl
  have oth : ∀ b o, b ≠ S → s.heap.get? b = some o → (s.heap.update S (Obj.mapSeq (fun _ => (#[] : Array Value)))).get? b = some o :=
    fun b o hb e => (Heap.get?_update_other _ _ (Ne.symm hb)).trans e
  refine wpAny_bind (wpAny_letGo ?_)
  refine DT.extI (es := es) (ep := ep) hh (let ⟨o, ho, x⟩ := hv; ⟨o, oth r o hSr.symm ho, x⟩) (hm.at' fun o e => oth d o hSd e) S hSr hSd .none _ hS₂ (fun h' tk acc c as hk hS' hl hG hacc => ?_) hn
  exact hR h' tk acc c as (fun b o hb e => hk b o hb (oth b o hb e)) hS' hl (hG.low (Nat.le_of_lt (Heap.lt_size hS₂))) hacc
theorem callI {Q : Value → Shared → Prop} (hh : A.handled = none) (hv : s.heap.IsItemsView r d) (hm : DT.Raw s.heap d es ep) (hn : es.size ≤ sizeLine)
    (hQ : ∀ h' tk acc c as, (∀ b o, s.heap.get? b = some o → h'.get? b = some o) → h'.get? s.heap.objs.size = some { cls := .type "list", dict := none, data := .seq acc c, slots := #[] } → as.length = es.size → DT.Made es s.heap.objs.size h' as →
      acc.toList = as.map Value.ref → Q (.ref s.heap.objs.size) { s with heap := h', toks := tk }) :
    wpAny (model prog w) A (call (.type "list") [.ref r]) Q E s := by
  refine callType_codes (Q₁ := fun obj s₁ => obj = .ref s.heap.objs.size ∧ s₁ = { s with heap := s.heap.push { cls := .type "list", data := .seq #[] } }) PySem.F.called_list (PySem.F.typeCall_list_1 _) PySem.F.entry_list_init
    (code_list_new _ ⟨rfl, rfl⟩) fun obj s₁ h₁ => ?_
  obtain ⟨rfl, rfl⟩ := h₁
  have hS : (s.heap.push { cls := .type "list", data := .seq #[] }).get? s.heap.objs.size = some { cls := .type "list", data := .seq #[] } := Heap.get?_push_size _ rfl
  have hr : r < s.heap.objs.size := let ⟨_, ho, _⟩ := hv; Heap.lt_size ho
  have hd : d < s.heap.objs.size := hm.lt
  refine ⟨⟨_, hS, rfl⟩, PySem.F.args_list_init_2 _ _, initI (es := es) (ep := ep) (A := A.in1) hh (let ⟨o, ho, x⟩ := hv; ⟨o, Heap.get?_push_of_some _ ho, x⟩) (hm.push _) _ (Nat.ne_of_gt hr) (Nat.ne_of_lt hd) hS (fun h' tk acc c as hk hS' hl hG hacc => ?_) hn⟩
  exact ⟨rfl, hQ h' tk acc c as (fun b o e => hk b o (Nat.ne_of_lt (Heap.lt_size e)) (Heap.get?_push_of_some _ e)) hS' hl hG hacc⟩
end
/-- the tuples of an object and a value tracked at their addresses -/
def putA : Hp → List Addr → List (Addr × V) → Hp
  | H, a :: as, p :: l => putA (upd H a (.tup [.ref p.1, p.2])) as l
  | H, _, _ => H
theorem putA_off {b : Addr} : ∀ (as : List Addr) (l : List (Addr × V)) (H : Hp), b ∉ as → putA H as l b = H b
  | [], _, _, _ => rfl
  | _ :: _, [], _, _ => rfl
  | a :: as, p :: l, H, h => by
    show putA (upd H a (.tup [.ref p.1, p.2])) as l b = H b
    rw [putA_off as l _ (fun z => h (List.mem_cons_of_mem _ z)), upd_ne (fun z => h (by rw [z]; exact List.mem_cons_self))]
theorem putA_at : ∀ (as : List Addr) (l : List (Addr × V)) (H : Hp), as.length = l.length → as.Nodup → Paired (fun (t : Addr) (p : Addr × V) => putA H as l t = some (.tup [.ref p.1, p.2])) as l
  | [], [], _, _, _ => .nil
  | [], _ :: _, _, h, _ => by cases h
  | _ :: _, [], _, h, _ => by cases h
  | a :: as, p :: l, H, h, hn => by
    have hn' := List.nodup_cons.mp hn
    have ih := putA_at as l (upd H a (.tup [.ref p.1, p.2])) (Nat.succ.inj h) hn'.2
    refine .cons ?_ ih
    show putA (upd H a (.tup [.ref p.1, p.2])) as l a = some (.tup [.ref p.1, p.2])
    rw [putA_off as l _ hn'.1, upd_same]
theorem kt_l {H : Hp} : ∀ {kvs : List (List Key × V)} {xs : List (List Key × Addr × Value)}, KT H kvs xs → ∃ l : List (Addr × V), Paired (fun (p : Addr × V) (q : Addr × Value) => p.1 = q.1 ∧ RelV p.2 q.2) l (xs.map (·.2)) ∧ Paired (fun (p : Addr × V) (kv : List Key × V) => H p.1 = some (.tup (kv.1.map kV)) ∧ p.2 = kv.2) l kvs
  | _, _, Paired.nil => ⟨[], .nil, .nil⟩
  | _, _, Paired.cons (a := p) (b := q) h t => by
    obtain ⟨l, h1, h2⟩ := kt_l t
    exact ⟨(q.2.1, p.2) :: l, .cons ⟨rfl, h.2.2⟩ h1, .cons ⟨h.2.1, rfl⟩ h2⟩
theorem pair3 {H H' : Hp} : ∀ {l : List (Addr × V)} {kvs : List (List Key × V)} {as : List Addr}, Paired (fun (p : Addr × V) (kv : List Key × V) => H p.1 = some (.tup (kv.1.map kV)) ∧ p.2 = kv.2) l kvs → Paired (fun (t : Addr) (q : Addr × V) => H' t = some (.tup [.ref q.1, q.2])) as l →
    Paired (fun (t : Addr) (q : List Key × V) => ∃ b, H b = some (.tup (q.1.map kV)) ∧ H' t = some (.tup [.ref b, q.2])) as kvs
  | _, _, _, .nil, .nil => .nil
  | _, _, _, .cons h t, .cons h2 t2 => .cons ⟨_, h.1, by rw [← h.2]; exact h2⟩ (pair3 t t2)
section
variable {X : Cx} {e : Expr} {te : TE} {p apos cpos pos : Pos}
theorem laidA {pins : List (Addr × Obj)} {σ : L2.St} {H : Hp} {s : Shared} {h' : Heap} {tk : Nat} {l : List (Addr × V)} {vs : List (Addr × Value)} {acc : Array Value} {c : Nat} {as : List Addr} (I : Inv X pins σ H s) (hz : l.length ≤ sizeLine) (kv : Paired (fun (p : Addr × V) (q : Addr × Value) => p.1 = q.1 ∧ RelV p.2 q.2) l vs)
    (hk : ∀ b o, s.heap.get? b = some o → h'.get? b = some o) (hS : h'.get? s.heap.objs.size = some { cls := .type "list", dict := none, data := .seq acc c, slots := #[] }) (hl : as.length = vs.length)
    (rise : as.Pairwise (· < ·)) (above : ∀ a ∈ as, s.heap.objs.size < a) (pairs : ∀ (j : Nat) (a : Addr), as[j]? = some a → ∃ q : Addr × Value, vs[j]? = some q ∧ h'.get? a = some { cls := .type "tuple", data := .seq #[.ref q.1, q.2] }) (hacc : acc.toList = as.map Value.ref) :
    ∃ H' : Hp, (∀ b o, H b = some o → H' b = some o) ∧ H s.heap.objs.size = none ∧ (∀ t ∈ as, H t = none) ∧ s.heap.objs.size ∉ as ∧ H' s.heap.objs.size = some (.lst (as.map V.ref)) ∧ Paired (fun (t : Addr) (q : Addr × V) => H' t = some (.tup [.ref q.1, q.2])) as l ∧ Inv X pins σ H' { s with heap := h', toks := tk } := by
  have lk : l.length = vs.length := Paired.length kv
  have hSn : s.heap.objs.size ∉ as := fun z => Nat.lt_irrefl _ (above _ z)
  have nd : as.Nodup := List.Pairwise.imp (fun {a b} (h : a < b) => Nat.ne_of_lt h) rise
  have new : ∀ t ∈ as, H t = none := fun t ht => I.hok.fresh (Nat.le_of_lt (above t ht))
  have newS : H s.heap.objs.size = none := I.hok.fresh (Nat.le_refl _)
  have atP := putA_at as l (upd H s.heap.objs.size (.lst (as.map V.ref))) (by omega) nd
  have off : ∀ b, b ∉ as → b ≠ s.heap.objs.size → putA (upd H s.heap.objs.size (.lst (as.map V.ref))) as l b = H b := fun b h1 h2 => by rw [putA_off as l _ h1, upd_ne h2]
  have low : ∀ b o, s.heap.get? b = some o → b ∉ as ∧ b ≠ s.heap.objs.size := fun b o e => ⟨fun z => absurd (Heap.lt_size e) (Nat.not_lt.mpr (Nat.le_of_lt (above b z))), Nat.ne_of_lt (Heap.lt_size e)⟩
  have kp : ∀ b u, H b = some u → (putA (upd H s.heap.objs.size (.lst (as.map V.ref))) as l) b = some u := fun b u e => by
    rw [off b (fun z => by rw [new b z] at e; cases e) (fun z => by rw [z, newS] at e; cases e)]
    exact e
  have eS : putA (upd H s.heap.objs.size (.lst (as.map V.ref))) as l s.heap.objs.size = some (.lst (as.map V.ref)) := by rw [putA_off as l _ hSn, upd_same]
  refine ⟨putA (upd H s.heap.objs.size (.lst (as.map V.ref))) as l, kp, newS, new, hSn, eS, atP, ?_⟩
  refine I.call' (ch := []) rfl ⟨fun b o q _ _ _ => hk b o q, fun b o q _ _ _ => ⟨o.slots, hk b o q⟩, fun b o q n _ => ?_, fun b o q _ => ⟨o, hk b o q⟩, fun b xs q => kp b _ q, fun b o u q => kp b _ q, fun b ps q => ⟨#[], by rw [kp b _ q]; simp⟩⟩ (fun b u q => ?_) I.bare fun b z => by simp at z
  · obtain ⟨z1, z2⟩ := low b o q
    rw [off b z1 z2]
    exact n
  · by_cases hb : b ∈ as
    · obtain ⟨j, pk, e1, e2, e3⟩ := LiI.paired_ix atP hb
      rw [e3] at q
      cases q
      obtain ⟨qv, f1, f3⟩ := pairs j b e1
      obtain ⟨qv2, g1, g2, g3⟩ := LiI.paired_get kv e2
      rw [f1] at g1
      cases g1
      have rk : RelV (.ref pk.1) (Value.ref qv.1) := by rw [g2]; exact rfl
      exact ⟨by show 2 ≤ sizeLine; decide, [.ref qv.1, qv.2], .cons rk (.cons g3 .nil), ⟨_, f3, rfl, _, rfl⟩⟩
    · by_cases hb2 : b = s.heap.objs.size
      · rw [hb2] at q ⊢
        rw [eS] at q
        cases q
        refine ⟨by rw [List.length_map]; omega, acc.toList, c, by rw [hacc]; exact LiI.vals_refs as, ?_⟩
        rw [Array.toArray_toList]
        exact hS
      · rw [off b hb hb2] at q
        exact (I.hok b u q).stay (fun d v _ y => hk d v y) (fun d y => kp d _ y) fun d xs y => kp d _ y
def rItemsA : V → Hp → VK → Prop := fun x H Q => LiI.rItemsL x H Q ∨ ∃ (d : Addr) (kvs : List (List Key × V)), x = .ref d ∧ H d = some (.dT kvs) ∧
  ∀ (H' : Hp) (p : Addr) (ts : List Addr), (∀ b o, H b = some o → H' b = some o) → H p = none → (∀ t ∈ ts, H t = none) → p ∉ ts → H' p = some (.lst (ts.map V.ref)) → Paired (fun (t : Addr) (q : List Key × V) => ∃ b, H b = some (.tup (q.1.map kV)) ∧ H' t = some (.tup [.ref b, q.2])) ts kvs → Q (.ref p) H'
def tListItemsA (te : TE) : TE := fun σ H Q => te σ H fun x H1 => rItemsA x H1 Q
/-- list(e.items()) -/
theorem pe_listItemsA (hc : X.calm = true) (he : PE X e te) (hg : Gl X "list") (hm : X.mg "list" = none) (hv : bootBuiltins "list" = some (.type "list")) (hbase : attributeBase e "items" X.env (eval e X.env) = eval e X.env := by rfl) (hline : (apos.endLine == cpos.line) = true := by rfl)
    (hs : starEach [.Call (.Attribute e "items" apos) [] [] cpos] X.env = (false, eval (.Call (.Attribute e "items" apos) [] [] cpos) X.env) :: starEach [] X.env := by rfl) :
    PE X (.Call (.Name "list" p) [.Call (.Attribute e "items" apos) [] [] cpos] [] pos) (tListItemsA te) := by
  refine ⟨fun pins s σ H Q I hq => ?_⟩
  refine wpAny_Call_Name_kw (ld_blt I hg hm hv ?_)
  refine PyProof.Rows.callWith_type1 ?_ hs rfl
  rw [hs]
  show wpAny _ _ (spliced ((false, eval (.Call (.Attribute e "items" apos) [] [] cpos) X.env) :: backTo pos (starEach [] X.env))) _ _ s
  refine Calls.spliced_cons ?_
  refine wpAny_Call_method (T := "dict") (id := "dict.items") hbase rfl hline F.plainAttrs_dict F.slot_dict_items F.type_dict_items (thn (he.run pins s σ H _ I hq) fun u s1 ⟨x, H1, I1, rx, q0⟩ => ?_)
  rcases q0 with ⟨d, kvs, ex, hd, q⟩ | ⟨d, kvs, ex, hd, q⟩
  · subst ex
    obtain rfl : u = Value.ref d := rx
    obtain ⟨hz, hs0, vs, kv, hdo⟩ := I1.hok d _ hd
    obtain ⟨ep, hat⟩ := hdo.dictAt
    have lk : kvs.length = vs.length := Paired.length kv
    have I2 : Inv X pins σ H1 { s1 with heap := s1.heap.push { cls := .type "dict_items", data := .fields #[.ref d] } } := I1.kept (t' := s1.toks) fun b ob q => Heap.get?_push_of_some _ q
    refine ⟨hdo.typeIs, hdo.mapOf.noDict, ?_⟩
    show wpAny _ _ (callWith cpos (.builtin "dict.items") [.ref d] [] []) _ X.xe s1
    refine method_meetsIn F.slot_dict_items F.entry_dict_items rfl (PySem.evalArgs_none ⟨rfl, hdo.typeIs, F.args_dict_items_1 _, _, meets_dict_items (mixKind X.prog X.w) d hs0, ⟨vs, hdo⟩, ?_⟩)
    refine Calls.spliced_nil ?_
    refine PySem.W.kdx_call (knd := mixKind X.prog X.w) (kvs := vs) (ep := ep) (I1.ok.hd hc) ⟨_, Heap.get?_push_size _ rfl, rfl, rfl⟩ (hat.push _) (by omega) fun h' tk acc c as hk hS hl hG hacc => ?_
    obtain ⟨H', k1, k2, k3, k4, k5, k6, J⟩ := LiI.items_laid (tk := tk) I2 hz kv hk hS hl hG hacc
    exact ⟨.ref _, H', J, rfl, q H' _ as k1 k2 k3 k4 k5 k6⟩
  · subst ex
    obtain rfl : u = Value.ref d := rx
    obtain ⟨z, hd0, xs', rel, o, es, ep, ho, hx, hdat, hes, his, hn⟩ := dt_of I1.hok hd
    have raw : DT.Raw s1.heap d es ep := ⟨o, ho, hx, hdat⟩
    obtain ⟨l, pl1, pl2⟩ := kt_l rel
    have lk : l.length = kvs.length := Paired.length pl2
    have lx : kvs.length = xs'.length := Paired.length rel
    have lsz : es.size = xs'.length := size_of_entries hes
    have I2 : Inv X pins σ H1 { s1 with heap := s1.heap.push { cls := .type "dict_items", data := .fields #[.ref d] } } := I1.kept (t' := s1.toks) fun b ob q => Heap.get?_push_of_some _ q
    refine ⟨raw.typeIs, (fun b e0 => by cases e0; exact ⟨o, ho, hx.2.1⟩), ?_⟩
    show wpAny _ _ (callWith cpos (.builtin "dict.items") [.ref d] [] []) _ X.xe s1
    refine method_meetsIn F.slot_dict_items F.entry_dict_items rfl (PySem.evalArgs_none ⟨rfl, raw.typeIs, F.args_dict_items_1 _, _, DT.meetsItems (es := es) (ep := ep) hd0, ⟨raw, ?_⟩⟩)
    refine Calls.spliced_nil ?_
    refine callI (es := es) (ep := ep) (I1.ok.hd hc) ⟨_, Heap.get?_push_size _ rfl, rfl, rfl⟩ (raw.push _) (by omega) fun h' tk acc c as hk hS hl hG hacc => ?_
    obtain ⟨H', k1, k2, k3, k4, k5, k6, J⟩ := laidA (tk := tk) (vs := xs'.map (·.2)) I2 (by omega) pl1 hk hS (by rw [List.length_map]; omega) hG.rise hG.above (fun j b hj => by
      obtain ⟨en, he, hg⟩ := hG.pairs j b hj
      rw [entry_at hes j] at he
      cases hxj : xs'[j]? with
      | none =>
        rw [hxj] at he
        exact nomatch (show (none : Option DictEntry) = some en from he)
      | some x =>
        rw [hxj] at he
        have een : entryOfKey (tupleKind (mixKind X.prog X.w)) x = en := Option.some.inj he
        refine ⟨x.2, by rw [List.getElem?_map, hxj]; rfl, ?_⟩
        rw [hg, ← een]
        all_goals rfl) hacc
    exact ⟨.ref _, H', J, rfl, q H' _ as k1 k2 k3 k4 k5 (pair3 pl2 k6)⟩
end
end LiA

namespace RK
open PySem L2
/-! ### the same: dicts keyed by pairs -/
def spSameT : Sp := fun vs H Q _ => ∃ (a b : Addr) (ps : List (Str × Str)) (g : Str × Str → Int), vs = [.ref a, .ref b] ∧ H a = some (.dT (kvP ps g)) ∧ H b = some (.dT (kvP ps g)) ∧ ps.length ≤ 1000 ∧ (∀ p ∈ ps, p.1.length ≤ 1000 ∧ p.2.length ≤ 1000) ∧ ∀ H', Same H H' → Q (.bl true) H'
section
variable {P : Program} {w : World} {K : PySem.W.Frag} {mg : Str → Option Value} {base : Heap}
theorem ok_sameT {f : Addr} {fd : FuncData} (F : Fun K "_law_same" "_law_same" sSame f fd) (B : B0 K mg) (bS : Binds K fd ["found", "due"] []) (gS : mg "_law_same" = some (.ref f)) : FnOk P w K mg base CX0 5 f fd ["found", "due"] spSameT := by
  have G : FnOk P w K mg base CX0 4 f fd ["found", "due"] (spSame 3) := ok_same F B bS gS 3
  refine F.ok scSame (fun vs H Q E h => ?_) (fun cdv A outer s H vs Q E hr h => ?_)
  · obtain ⟨a, b, ps, g, rfl, _⟩ := h
    rfl
  · obtain ⟨a, b, ps, g, rfl, ha, hb, hl, hz, q⟩ := h
    refine ⟨_, pss_cons (ps_if (pt_val (pe_callB call_isiTZ (by rfl) B.isi (by decide +kernel) (pa_cons (pv 1) (pa_cons (pe_tup (pa_cons (pe_bltn (v := .ty "list") (by rfl) B.list (by decide +kernel) rfl) (pa_cons (pe_bltn (v := .ty "tuple") (by rfl) B.tuple (by decide +kernel) rfl) pa_nil))) pa_nil)))) pss_never pss_nil)
        (pss_cons (ps_if (pt_val (pe_callB call_isiZ (by rfl) B.isi (by decide +kernel) (pa_cons (pv 1) (pa_cons (pe_bltn (v := .ty "dict") (by rfl) B.dict (by decide +kernel) rfl) pa_nil)))) (pss_one (ps_ret (pe_and (pe_callB call_isiZ (by rfl) B.isi (by decide +kernel) (pa_cons (pv 0) (pa_cons (pe_bltn (v := .ty "dict") (by rfl) B.dict (by decide +kernel) rfl) pa_nil))) (pe_one (pe_call G hr (by rfl) gS F.kp bS .nil pass0 (pa_cons (LiA.pe_listItemsA rfl (pv 0) (by rfl) B.list (by decide +kernel)) (pa_cons (LiA.pe_listItemsA rfl (pv 1) (by rfl) B.list (by decide +kernel)) pa_nil))))))) pss_nil)
        (pss_cons (ps_if (pt_val (pe_callB call_isiZ (by rfl) B.isi (by decide +kernel) (pa_cons (pv 1) (pa_cons (pe_bltn (v := .ty "int") (by rfl) B.int (by decide +kernel) rfl) pa_nil)))) (pss_one (ps_ret (pe_and (pe_callB call_isiZ (by rfl) B.isi (by decide +kernel) (pa_cons (pv 0) (pa_cons (pe_bltn (v := .ty "int") (by rfl) B.int (by decide +kernel) rfl) pa_nil))) (pe_and (pe_cmpR op_eq (pe_callB call_isiZ (by rfl) B.isi (by decide +kernel) (pa_cons (pv 0) (pa_cons (pe_bltn (v := .ty "bool") (by rfl) B.bool (by decide +kernel) rfl) pa_nil))) (pe_callB call_isiZ (by rfl) B.isi (by decide +kernel) (pa_cons (pv 1) (pa_cons (pe_bltn (v := .ty "bool") (by rfl) B.bool (by decide +kernel) rfl) pa_nil))) (nomark _)) (pe_one (pe_cmpR op_eq (pv 0) (pv 1) (nomark _))))))) pss_nil)
        (pss_one (ps_ret (pe_and (pe_not (pe_callB call_isiTZ (by rfl) B.isi (by decide +kernel) (pa_cons (pv 0) (pa_cons (pe_tup (pa_cons (pe_bltn (v := .ty "int") (by rfl) B.int (by decide +kernel) rfl) (pa_cons (pe_bltn (v := .ty "list") (by rfl) B.list (by decide +kernel) rfl) (pa_cons (pe_bltn (v := .ty "tuple") (by rfl) B.tuple (by decide +kernel) rfl) (pa_cons (pe_bltn (v := .ty "dict") (by rfl) B.dict (by decide +kernel) rfl) pa_nil))))) pa_nil)))) (pe_one (pe_cmpR op_eq (pv 0) (pv 1) (nomark _)))))))), ?_⟩
    refine ⟨_, rfl, by show 2 ≤ sizeLine; decide, fun p hp => ?_⟩
    have s1 := same_upd (o := .tup [.ty "list", .ty "tuple"]) hp
    refine ⟨.ref b, p, [.ty "list", .ty "tuple"], _, [.type "list", .type "tuple"], false, rfl, upd_same, .cons (.ty _) (.cons (.ty _) .nil), .x (.base (.dT (s1 _ _ hb))), kit_seq .dict, _, rfl, iteF ?_⟩
    refine ⟨_, rfl, .ref b, .ty "dict", _, .type "dict", true, rfl, .ty _, .x (.base (.dT (s1 _ _ hb))), kit_dict .dict, _, rfl, iteT ?_⟩
    refine ⟨_, rfl, .ref a, .ty "dict", _, .type "dict", true, rfl, .ty _, .x (.base (.dT (s1 _ _ ha))), kit_dict .dict, _, rfl, iteT ?_⟩
    refine ⟨_, rfl, .inr ⟨a, _, rfl, s1 _ _ ha, fun H1 p1 ts1 s1' hp1 hts1 hpt1 e1 t1 => ?_⟩⟩
    refine ⟨_, rfl, .inr ⟨b, _, rfl, s1' _ _ (s1 _ _ hb), fun H2 p2 ts2 s2 hp2 hts2 hpt2 e2 t2 => ?_⟩⟩
    have l0 : (kvP ps g).length = ps.length := List.length_map _
    have l1 : ts1.length = ps.length := (Paired.length t1).trans l0
    have l2 : ts2.length = ps.length := (Paired.length t2).trans l0
    refine st_nil ⟨.ref p1, .ref p2, rfl, SameD.lst (n := 2) (s2 _ _ e1) e2 (by rw [List.length_map, List.length_map, l1, l2]) (by rw [List.length_map, l1]; exact hl) (fun i u v eu ev => ?_), fun H3 s3 => q H3 (Same.trans s1 (Same.trans s1' (Same.trans s2 s3)))⟩
    obtain ⟨tu, htu, rfl⟩ := get_map eu
    obtain ⟨tv, htv, rfl⟩ := get_map ev
    obtain ⟨kv, hkv, k1, hk1, ek1⟩ := paired_get t1 htu
    obtain ⟨kv2, hkv2, k2, hk2, ek2⟩ := paired_get t2 htv
    rw [hkv] at hkv2
    cases hkv2
    obtain ⟨pr, hpr, rfl⟩ : ∃ pr ∈ ps, kv = (kP pr, V.int (g pr)) := by
      obtain ⟨pr, hpr, e⟩ := List.mem_map.mp (List.mem_of_getElem? hkv)
      exact ⟨pr, hpr, e.symm⟩
    refine SameD.tup (n := 1) (s2 _ _ ek1) ek2 rfl (by show 2 ≤ 1000; decide) fun n' x1 x2 g1 g2 => ?_
    match n', g1, g2 with
    | 0, rfl, rfl =>
      have hk1' := s2 _ _ (s1' _ _ hk1)
      have hk2' := s2 _ _ hk2
      refine SameD.tup (n := 0) hk1' hk2' rfl (by show 2 ≤ 1000; decide) fun n'' y1 y2 f1 f2 => ?_
      match n'', f1, f2 with
      | 0, rfl, rfl => exact .str (hz pr hpr).1
      | 1, rfl, rfl => exact .str (hz pr hpr).2
    | 1, rfl, rfl => exact .int _
end
end RK

namespace RK
open PySem L2
/-! ### small cases: all that is asked is run -/
def L7 : List (Nat × Nat) := [(2, 1), (2, 6), (3, 1), (3, 3), (4, 1), (4, 2), (5, 1)]
def smallOk (n m : Nat) : Bool :=
  decide ((rightI n m).length = (m * n + 1) ^ (n - 1)) && decide (notedI n m 1 = n) &&
    (List.range (m * n * (n - 1) / 2 + 3)).all fun y => decide ((((rightI n m).filter fun row => decide (row.sum = (y : Int))).length : Int) = notedI n m (y : Int))
theorem all_small : ∀ x ∈ L7, smallOk x.1 x.2 = true := by decide +kernel
def spSmallR : Sp := fun vs H Q _ => ∃ (a m : Nat), vs = [.ref a] ∧ SpAt H a m ∧ m < 100000000 ∧ ∀ H', SpAt H' a (m + 100) → But a H H' → Q (.bl true) H'
theorem path_but {C a p t : Addr} {H G : Hp} {zs : List Str} (hp : PathAt C H p t zs) (pa : p ≠ a) (ta : t ≠ a) (b : But a H G) : PathAt C G p t zs := ⟨let ⟨dx, e⟩ := hp.ob; ⟨dx, b _ _ pa e⟩, b _ _ ta hp.tu⟩
theorem path_t {K : PySem.W.Frag} {C CP p t : Addr} {zs : List Str} {G : Hp} {E : XK} {next : List Str → Prop} (hp : PathAt C G p t zs) (hnd : zs.Nodup) (hpool : ∀ z ∈ zs, z ∈ pool) (h2 : 2 ≤ zs.length) (h20 : zs.length ≤ 20) (h : next zs) : PathT K C CP (.ref p) G E next :=
  .inr ⟨p, t, zs, rfl, hp, hnd, fun y hy => pool_names y (hpool y hy), fun y hy => pool_len y (hpool y hy), h2, by omega, h⟩
theorem most_t {K : PySem.W.Frag} {CM : Addr} {k : Int} {G : Hp} {E : XK} {next : Int → Prop} (hk : 1 ≤ k) (h : next k) : MostT K CM (.int k) G E next := by
  refine ⟨_, .int k, fun hb => ?_, fun _ i ei => ?_⟩
  · exfalso
    rw [show timesB (.int k) = decide (1 ≤ k) from rfl, decide_eq_true hk] at hb
    cases hb
  · cases ei
    exact h
theorem num_t {K : PySem.W.Frag} {CN : Addr} {k : Int} {G : Hp} {E : XK} {next : Int → Prop} (hk : 0 ≤ k) (h : next k) : NumT K CN (.int k) G E next := by
  refine ⟨_, .int k, fun hb => ?_, fun _ i ei => ?_⟩
  · exfalso
    have : numB (.int k) = true := decide_eq_true hk
    rw [this] at hb
    cases hb
  · cases ei
    exact h
theorem cn_good {K : PySem.W.Frag} {C CP CM p t : Addr} {zs : List Str} {k : Int} {G : Hp} {Q : VK} {E : XK} (hp : PathAt C G p t zs) (hnd : zs.Nodup) (hpool : ∀ z ∈ zs, z ∈ pool) (h2 : 2 ≤ zs.length) (h20 : zs.length ≤ 20) (hk : 1 ≤ k) (hk2 : k < 2 ^ 50)
    (q : ∀ H', Same G H' → Q (.int ((k * (zs.length : Int) + 1) ^ (zs.length - 1))) H') : spCountNotes K C CP CM [.ref p, .int k] G Q E :=
  ⟨_, _, rfl, path_t hp hnd hpool h2 h20 (most_t hk ⟨by omega, hk2, q⟩)⟩
theorem cd_good {K : PySem.W.Frag} {C CP CM CN p t : Addr} {zs : List Str} {k y : Int} {G : Hp} {Q : VK} {E : XK} (hp : PathAt C G p t zs) (hnd : zs.Nodup) (hpool : ∀ z ∈ zs, z ∈ pool) (h2 : 2 ≤ zs.length) (h6 : zs.length ≤ 6) (hk : 1 ≤ k) (hk6 : k ≤ 6) (hy : 0 ≤ y) (hy4 : y ≤ 400)
    (q : ∀ H', Same G H' → Q (.int (notedI zs.length k y)) H') : spCountNoted K C CP CM CN [.ref p, .int k, .int y] G Q E :=
  ⟨_, _, _, rfl, path_t hp hnd hpool h2 (by omega) (most_t hk (num_t hy ⟨h6, hk6, hy4, q⟩))⟩
theorem l7_small : ∀ x ∈ L7, 2 ≤ x.1 ∧ x.1 ≤ 5 ∧ 1 ≤ x.2 ∧ x.2 ≤ 6 ∧ x.2 * (x.1 - 1) ≤ 6 ∧ x.2 * x.1 * (x.1 - 1) / 2 ≤ 30 := by decide
theorem same_ints {H : Hp} {a b : Addr} {xs ys : List Int} (ha : H a = some (.lst (xs.map V.int))) (hb : H b = some (.lst (ys.map V.int))) (e : xs = ys) (hl : xs.length ≤ 1000) : SameD H 2 (.ref a) (.ref b) := by
  subst e
  refine .lst ha hb rfl (by rw [List.length_map]; exact hl) fun i x y hx hy => ?_
  rw [hx] at hy
  cases hy
  obtain ⟨j, _, rfl⟩ := get_map hx
  exact .int j
theorem SpAt.up {H : Hp} {a : Addr} {m n : Nat} (h : SpAt H a m) (e : m ≤ n) : SpAt H a n := let ⟨o, h1, h2⟩ := h; ⟨o, h1, h2.mono e⟩
section
variable {P : Program} {w : World} {K : PySem.W.Frag} {mg : Str → Option Value} {base : Heap} {C CP CM CN fN : Addr}
theorem scSmallR : FnScope ["draws", "many", "most", "path", "rows", "number", "due", "row"] ["draws"] (defScope sSmallR) := ⟨rfl, rfl, rfl, by decide +kernel, rfl, by decide +kernel, by decide +kernel⟩
theorem ok_smallR {f fQ fD fA fW fN fR fP : Addr} {fd fdQ fdD fdA fdW fdN fdR fdP : FuncData} (F : Fun K "_law_small_right" "_law_small_right" sSmallR f fd) (B : B0 K mg) (zsum : mg "sum" = none)
    (GQ : FnOk P w K mg base CX0 3 fQ fdQ ["found", "due"] (spSame 2)) (bQ : Binds K fdQ ["found", "due"] []) (gQ : mg "_law_same" = some (.ref fQ)) (kQ9 : PySem.W.keepIn K (.ref fQ) = true)
    (GD : FnOk P w K mg base (L2.CX P w) 4 fD fdD ["path", "most", "number"] (spCountNoted K C CP CM CN)) (bD : Binds K fdD ["path", "most", "number"] []) (gD : mg "count_noted" = some (.ref fD)) (kD9 : PySem.W.keepIn K (.ref fD) = true)
    (cD : KBn K fdD ["path", "most", "number"] 0 ["number", "most", "path"] (fun us ws => ws.reverse) (fun vs zs => zs.reverse))
    (GA : FnOk P w K mg base (L2.CX P w) 4 fA fdA ["path", "most"] (spCountNotes K C CP CM)) (bA : Binds K fdA ["path", "most"] []) (gA : mg "count_notes" = some (.ref fA)) (kA9 : PySem.W.keepIn K (.ref fA) = true)
    (cA : KBn K fdA ["path", "most"] 0 ["most", "path"] (fun us ws => ws.reverse) (fun vs zs => zs.reverse))
    (GW : FnOk P w K mg base CX0 4 fW fdW ["draws", "names"] (spQMade C)) (bW : Binds K fdW ["draws", "names"] []) (gW : mg "_law_made" = some (.ref fW)) (kW9 : PySem.W.keepIn K (.ref fW) = true)
    (GN : FnOk P w K mg base CX0 3 fN fdN ["draws", "many"] spNames) (bN : Binds K fdN ["draws", "many"] []) (gN : mg "_law_names" = some (.ref fN)) (kN9 : PySem.W.keepIn K (.ref fN) = true)
    (GR : FnOk P w K mg base CX0 2 fR fdR ["many", "most"] spRightLs) (bR : Binds K fdR ["many", "most"] []) (gR : mg "_law_right_lists" = some (.ref fR)) (kR9 : PySem.W.keepIn K (.ref fR) = true)
    (GP : FnOk P w K mg base CX0 2 fP fdP ["draws", "some"] spPick) (bP : Binds K fdP ["draws", "some"] []) (gP : mg "_law_pick" = some (.ref fP)) (kP9 : PySem.W.keepIn K (.ref fP) = true) :
    FnOk P w K mg base CX0 6 f fd ["draws"] spSmallR := by
  refine F.ok scSmallR (fun vs H Q E h => ?_) (fun cdv A outer s H vs Q E hr h => ?_)
  · obtain ⟨a, m, rfl, _⟩ := h
    rfl
  · obtain ⟨a, m, rfl, hsp, hm, q⟩ := h
    have hu := hu_of hr
    have hr2 : Room 2 _ := hr.mono (by decide)
    have hr3 : Room 3 _ := hr.mono (by decide)
    have hr4 : Room 4 _ := hr.mono (by decide)
    refine ⟨_, pss_cons (ps_asg (pe_call GP hr2 (by rfl) gP kP9 bP .nil pass0 (pa_cons (pv 0) (pa_cons (pe_lst (pa_cons (pe_tup (pa_cons pe_int (pa_cons pe_int pa_nil))) (pa_cons (pe_tup (pa_cons pe_int (pa_cons pe_int pa_nil))) (pa_cons (pe_tup (pa_cons pe_int (pa_cons pe_int pa_nil))) (pa_cons (pe_tup (pa_cons pe_int (pa_cons pe_int pa_nil))) (pa_cons (pe_tup (pa_cons pe_int (pa_cons pe_int pa_nil))) (pa_cons (pe_tup (pa_cons pe_int (pa_cons pe_int pa_nil))) (pa_cons (pe_tup (pa_cons pe_int (pa_cons pe_int pa_nil))) pa_nil)))))))) pa_nil))) (pg_tup rfl (pgs_cons (pg_name (i := 1) scSmallR.nd rfl (Or.inl rfl)) (pgs_cons (pg_name (i := 2) scSmallR.nd rfl (Or.inl rfl)) pgs_nil))))
      (pss_cons (ps_par (i := 3) (j := 4) rfl scSmallR.nd rfl rfl (by decide) rfl rfl (pa_cons (pe_call GW hr4 (by rfl) gW kW9 bW .nil pass0 (pa_cons (pv 0) (pa_cons (pe_call GN hr3 (by rfl) gN kN9 bN .nil pass0 (pa_cons (pv 0) (pa_cons (pv 1) pa_nil))) pa_nil))) (pa_cons (pe_call GR hr2 (by rfl) gR kR9 bR .nil pass0 (pa_cons (pv 1) (pa_cons (pv 2) pa_nil))) pa_nil)) (by rfl))
      (pss_cons (ps_if (pt_not (pt_val (pe_call GQ hr3 (by rfl) gQ kQ9 bQ .nil pass0 (pa_cons (pe_lst (pa_cons (pe_call GA hr4 (by rfl) gA kA9 bA .nil passL (pa_cons (pv 3) (pa_cons (pv 2) pa_nil))) (pa_cons (pe_callK0 GA hr4 (by rfl) gA kA9 cA passL (pk_cons (pv 2) (pk_cons (pv 3) pk_nil))) pa_nil))) (pa_cons (pe_op op_rep (pe_lst (pa_cons (pe_callB call_len_seq (by rfl) B.len PySem.boot_len (pa_cons (pv 4) pa_nil)) pa_nil)) pe_int) pa_nil))))) (pss_one (ps_ret pe_bl)) (pss_nil))
      (pss_cons (ps_for PassesOwn.never rfl (pi_range1 (by rfl) B.range (pa_cons (pe_op op_add (pe_op op_fdiv (pe_op op_mul (pe_op op_mul (pv 2) (pv 1)) (pe_op op_sub (pv 1) pe_int)) pe_int) pe_int) pa_nil)) (pg_name (i := 5) scSmallR.nd rfl (Or.inr rfl))
        (pss_cons (ps_set (i := 6) scSmallR.nd rfl (Or.inl rfl) (pe_callB call_len_seq (by rfl) B.len PySem.boot_len (pa_cons (pe_lc (te := (L2.tC (.int 1))) (own := [("row", 7)]) (g := (gName 7)) (tt := (tTest (tOp rEq (tCB (rSum K) (tCons (tVar 7) tNil)) (tVar 5)))) rfl scSmallR.nd (pi_list (pv 4)) (blkOk_by (N := ["draws", "many", "most", "path", "rows", "number", "due", "row"]) (sc := defScope sSmallR) (by decide +kernel))
          (fun _ _ _ _ _ => (pg_name (i := 7) scSmallR.nd rfl (Or.inl rfl))) (fun _ _ _ _ _ => by exact (pts_one (pt_cmpR op_eq (pe_callB (cr_sum rfl) (by rfl) zsum (by decide +kernel) (pa_cons (pv 7) pa_nil)) (pv 5) (nomark _)))) (fun _ _ _ _ _ => by exact pe_int)) pa_nil)))
      (pss_one (ps_if (pt_not (pt_val (pe_call GQ hr3 (by rfl) gQ kQ9 bQ .nil pass0 (pa_cons (pe_call GD hr4 (by rfl) gD kD9 bD .nil passL (pa_cons (pv 3) (pa_cons (pv 2) (pa_cons (pv 5) pa_nil)))) (pa_cons (pv 6) pa_nil))))) (pss_one (ps_ret pe_bl)) (pss_nil)))))
      (pss_one (ps_ret (pe_call GQ hr3 (by rfl) gQ kQ9 bQ .nil pass0 (pa_cons (pe_callK0 GD hr4 (by rfl) gD kD9 cD passL (pk_cons pe_int (pk_cons (pv 2) (pk_cons (pv 3) pk_nil)))) (pa_cons (pv 1) pa_nil)))))))), ?_⟩
    obtain ⟨osp, hosp, _⟩ := id hsp
    refine ⟨_, rfl, by show 2 ≤ sizeLine; decide, fun T1 hT1 => ?_⟩
    generalize hE : upd H T1 _ = G1
    have sG1 : Same H G1 := hE ▸ same_upd hT1
    have eT1 := congrFun hE.symm T1
    rw [upd_same] at eT1
    clear hE
    refine ⟨by show 2 ≤ sizeLine; decide, fun T2 hT2 => ?_⟩
    generalize hE : upd G1 T2 _ = G2
    have sG2 : Same G1 G2 := hE ▸ same_upd hT2
    have eT2 := congrFun hE.symm T2
    rw [upd_same] at eT2
    clear hE
    refine ⟨by show 2 ≤ sizeLine; decide, fun T3 hT3 => ?_⟩
    generalize hE : upd G2 T3 _ = G3
    have sG3 : Same G2 G3 := hE ▸ same_upd hT3
    have eT3 := congrFun hE.symm T3
    rw [upd_same] at eT3
    clear hE
    refine ⟨by show 2 ≤ sizeLine; decide, fun T4 hT4 => ?_⟩
    generalize hE : upd G3 T4 _ = G4
    have sG4 : Same G3 G4 := hE ▸ same_upd hT4
    have eT4 := congrFun hE.symm T4
    rw [upd_same] at eT4
    clear hE
    refine ⟨by show 2 ≤ sizeLine; decide, fun T5 hT5 => ?_⟩
    generalize hE : upd G4 T5 _ = G5
    have sG5 : Same G4 G5 := hE ▸ same_upd hT5
    have eT5 := congrFun hE.symm T5
    rw [upd_same] at eT5
    clear hE
    refine ⟨by show 2 ≤ sizeLine; decide, fun T6 hT6 => ?_⟩
    generalize hE : upd G5 T6 _ = G6
    have sG6 : Same G5 G6 := hE ▸ same_upd hT6
    have eT6 := congrFun hE.symm T6
    rw [upd_same] at eT6
    clear hE
    refine ⟨by show 2 ≤ sizeLine; decide, fun T7 hT7 => ?_⟩
    generalize hE : upd G6 T7 _ = G7
    have sG7 : Same G6 G7 := hE ▸ same_upd hT7
    have eT7 := congrFun hE.symm T7
    rw [upd_same] at eT7
    clear hE
    refine ⟨by show 7 ≤ sizeLine; decide, fun L hL => ?_⟩
    generalize hE : upd G7 L _ = G8
    have sG8 : Same G7 G8 := hE ▸ same_upd hL
    have eL := congrFun hE.symm L
    rw [upd_same] at eL
    clear hE
    have s78 : Same G7 G8 := sG8
    have s68 : Same G6 G8 := sG7.trans s78
    have s58 : Same G5 G8 := sG6.trans s68
    have s48 : Same G4 G8 := sG5.trans s58
    have s38 : Same G3 G8 := sG4.trans s48
    have s28 : Same G2 G8 := sG3.trans s38
    have s18 : Same G1 G8 := sG2.trans s28
    have s08 : Same H G8 := sG1.trans s18
    have sp8 := hsp.same s08
    have haL : a ≠ L := fun e => (hsp.same (sG1.trans (sG2.trans (sG3.trans (sG4.trans (sG5.trans (sG6.trans sG7))))))).ne (by rw [e]; exact hL)
    refine ⟨a, L, _, m, rfl, haL, sp8, by omega, eL, by show 0 < 7; decide, by show 7 ≤ 1000; decide, fun v o hv ho => ?_⟩
    obtain ⟨T, n, k, rfl, hT8, h7⟩ : ∃ (T : Addr) (n k : Nat), v = .ref T ∧ G8 T = some (.tup [.int n, .int k]) ∧ (n, k) ∈ L7 := by
      simp only [List.mem_cons, List.not_mem_nil, or_false] at hv
      rcases hv with rfl | rfl | rfl | rfl | rfl | rfl | rfl
      · exact ⟨T1, 2, 1, rfl, s18 _ _ eT1, by decide⟩
      · exact ⟨T2, 2, 6, rfl, s28 _ _ eT2, by decide⟩
      · exact ⟨T3, 3, 1, rfl, s38 _ _ eT3, by decide⟩
      · exact ⟨T4, 3, 3, rfl, s48 _ _ eT4, by decide⟩
      · exact ⟨T5, 4, 1, rfl, s58 _ _ eT5, by decide⟩
      · exact ⟨T6, 4, 2, rfl, s68 _ _ eT6, by decide⟩
      · exact ⟨T7, 5, 1, rfl, s78 _ _ eT7, by decide⟩
    clear hv
    obtain ⟨hn2, hn5, hk1, hk6, hkn, hk30⟩ : 2 ≤ n ∧ n ≤ 5 ∧ 1 ≤ k ∧ k ≤ 6 ∧ k * (n - 1) ≤ 6 ∧ k * n * (n - 1) / 2 ≤ 30 := l7_small _ h7
    have hok : smallOk n k = true := all_small _ h7
    have hkn1 : k * n + 1 ≤ 31 := by
      have : k * n ≤ 6 * 5 := Nat.mul_le_mul hk6 hn5
      omega
    have hTa : T ≠ a := fun z => by
      obtain ⟨ys, ha⟩ := sp8.lst
      rw [z, ha] at hT8; cases hT8
    have b89 : But a G8 (upd G8 a o) := But.upd
    have sp9 : SpAt (upd G8 a o) a (m + 1) := ⟨o, upd_same, ho⟩
    generalize upd G8 a o = G9 at b89 sp9 ⊢
    have b09 : But a H G9 := (Same.but s08).trans b89
    refine ⟨T, _, rfl, SqT.of (b89 _ _ hTa hT8), rfl, _, _, rfl, _, _, rfl, rfl, ?_⟩
    -- names, path, rows
    refine ⟨_, rfl, _, rfl, _, rfl, a, n, m + 1, rfl, by omega, sp9, by omega, fun N zs G10 hnd hpool hzl hN0 hN sp10 b10 => ?_⟩
    have haN : a ≠ N := fun e => sp9.ne (by rw [e]; exact hN0)
    have h2 : 2 ≤ zs.length := by omega
    have h20 : zs.length ≤ 20 := by omega
    refine ⟨a, N, zs, m + 1 + 20, rfl, haN, sp10, by omega, hN, hnd, fun y hy => pool_names y (hpool y hy), fun y hy => pool_len y (hpool y hy), h2, by omega, fun p t G11 hp hpa hta sp11 b11 => ?_⟩
    have b011 : But a H G11 := b09.trans (b10.trans b11)
    refine ⟨_, rfl, _, rfl, n, k, rfl, by omega, hn5, hk1, hkn, fun R as G12 hR0 eR hra s12 => ⟨_, _, rfl, ?_⟩⟩
    have sp12 := sp11.same s12
    have hp12 := hp.same s12
    have fin : ∀ G', Same G12 G' → Q (.bl true) G' := fun G' s' => q G' ((sp12.same s').up (by omega)) (b011.trans (Same.but (s12.trans s')))
    unfold smallOk at hok
    rw [Bool.and_eq_true, Bool.and_eq_true] at hok
    obtain ⟨⟨c1, c2⟩, c3⟩ := hok
    have hlen : (rightI n k).length = (k * n + 1) ^ (n - 1) := of_decide_eq_true c1
    have hone : notedI n k 1 = n := of_decide_eq_true c2
    have hal : as.length = (rightI n k).length := Paired.length hra
    -- how many
    refine ⟨_, rfl, _, rfl, st_nil (cn_good hp12 hnd hpool h2 h20 (by omega) (by omega) fun G13 s13 => ?_)⟩
    refine ⟨_, rfl, _, rfl, st_nil ⟨rfl, rfl, cn_good (hp12.same s13) hnd hpool h2 h20 (by omega) (by omega) fun G14 s14 => ?_⟩⟩
    refine ⟨by show 2 ≤ sizeLine; decide, fun F0 hF0 => ?_⟩
    generalize hE : upd G14 F0 _ = G15
    have sG15 : Same G14 G15 := hE ▸ same_upd hF0
    have eF0 := congrFun hE.symm F0
    rw [upd_same] at eF0
    clear hE
    have s1215 : Same G12 G15 := s13.trans (s14.trans sG15)
    refine ⟨_, rfl, R, _, rfl, .inl (SqL.of (s1215 _ _ eR)), by show 1 ≤ sizeLine; decide, fun U hU => ?_⟩
    generalize hE : upd G15 U _ = G16
    have sG16 : Same G15 G16 := hE ▸ same_upd hU
    have eU := congrFun hE.symm U
    rw [upd_same] at eU
    clear hE
    refine ⟨U, 2, _, rfl, rfl, eU, by decide, by decide, by show 1 * 2 ≤ sizeLine; decide, fun D hD => ?_⟩
    generalize hE : upd G16 D _ = G17
    have sG17 : Same G16 G17 := hE ▸ same_upd hD
    have eD := congrFun hE.symm D
    rw [upd_same] at eD
    clear hE
    have eF17 := sG17 _ _ (sG16 _ _ eF0)
    have s1217 : Same G12 G17 := s1215.trans (sG16.trans sG17)
    have ecount : ((k : Int) * (zs.length : Int) + 1) ^ (zs.length - 1) = (((as.map V.ref).length : Nat) : Int) := by
      rw [List.length_map, hal, hlen, hzl, Int.natCast_pow]
      rfl
    refine ⟨_, _, rfl, same_ints (xs := [((k : Int) * (zs.length : Int) + 1) ^ (zs.length - 1), ((k : Int) * (zs.length : Int) + 1) ^ (zs.length - 1)]) (ys := [(((as.map V.ref).length : Nat) : Int), (((as.map V.ref).length : Nat) : Int)]) eF17 eD (by rw [ecount]) (by show 2 ≤ 1000; decide), fun G18 s18' => ⟨true, rfl, iteF ?_⟩⟩
    have s1218 : Same G12 G18 := s1217.trans s18'
    have hX : ((k : Int) * (n : Int) * ((n : Int) - 1) / 2 + 3) = ((k * n * (n - 1) / 2 + 3 : Nat) : Int) := by
      rw [show ((n : Int) - 1) = ((n - 1 : Nat) : Int) by omega, ← Int.natCast_mul, ← Int.natCast_mul]
      omega
    refine ⟨_, rfl, _, rfl, _, _, rfl, rfl, Or.inl ⟨by omega, by omega⟩, _, rfl, _, _, rfl, rfl, _, _, rfl, rfl, Or.inr ⟨by omega, by omega⟩, _, _, rfl, rfl, ⟨by decide, by decide⟩, _, _, rfl, rfl, ((k * n * (n - 1) / 2 + 3 : Nat) : Int), congrArg (fun i => [V.int i]) hX, by omega, by omega, for_range (n := k * n * (n - 1) / 2 + 3) (fun j σ G => ∃ w5 w6, σ = [some (.ref a), some (.int n), some (.int k), some (.ref p), some (.ref R), w5, w6, none] ∧ Same G12 G) ⟨none, none, rfl, s1218⟩ ?_ ?_⟩
    · rintro j σ G hj ⟨w5, w6, rfl, sG⟩
      rw [show (0 : Int) + (j : Nat) = (j : Int) from Int.zero_add _]
      have hc := of_decide_eq_true (List.all_eq_true.mp c3 j (List.mem_range.mpr hj))
      have eR' := sG _ _ eR
      refine ⟨_, rfl, R, rfl, ⟨_, SqL.of eR'⟩, fun D hD => ?_⟩
      refine lc_it (walk_list (K := K) (a := R) (xs := as.map V.ref)) (fun i G' => Same G G' ∧ G' D = some (.lst ((((rightI n k).take i).filter fun row => decide (row.sum = (j : Int))).map fun _ => V.int 1))) ⟨same_upd hD, upd_same⟩ (fun i G' _ p => SqL.of (p.1 _ _ eR')) ?_ ?_
      · rintro i x G1' G2' hi ⟨sm, hacc⟩ ⟨rfl, hx⟩
        obtain ⟨ad, ha, rfl⟩ := get_map hx
        obtain ⟨row, hrow, hrowa⟩ := paired_get hra ha
        have ea := sm _ _ (sG _ _ hrowa)
        rw [take_more hrow, List.filter_append, List.map_append]
        have edec : decide (V.int row.sum = V.int (j : Int)) = decide (row.sum = (j : Int)) := decide_eq_decide.mpr ⟨fun e => by injection e, fun e => by rw [e]⟩
        refine ⟨rfl, ⟨_, rfl, ad, row, rfl, SqL.of ea, _, rfl, rfl, _, rfl, ?_⟩⟩
        rw [edec]
        by_cases hs : row.sum = (j : Int)
        · rw [decide_eq_true hs]
          refine iteT ⟨_, hacc, ?_, fun c o hb => ?_, ?_⟩
          · rw [List.length_map]
            refine Nat.lt_of_le_of_lt (List.length_filter_le _ _) ?_
            rw [List.length_take, ← hal]
            have h1 := (List.getElem?_eq_some_iff.mp ha).1
            refine Nat.lt_of_le_of_lt (Nat.min_le_right _ _) ?_
            rw [hal, hlen]
            refine Nat.lt_of_le_of_lt (Nat.le_trans (Nat.pow_le_pow_left hkn1 (n - 1)) (Nat.pow_le_pow_right (by decide) (show n - 1 ≤ 4 by omega))) (by decide)
          · rw [upd_ne (ne_of_none hb hD)]
            exact sm _ _ hb
          · rw [upd_same, List.filter_cons, if_pos (decide_eq_true hs)]
            rfl
        · rw [decide_eq_false hs]
          refine iteF ⟨sm, ?_⟩
          rw [List.filter_cons, if_neg (by rw [decide_eq_false hs]; exact Bool.false_ne_true), List.filter_nil, List.map_nil, List.append_nil]
          exact hacc
      · rintro G1' ⟨sm, hacc⟩
        rw [List.length_map, hal, List.take_length] at hacc
        refine st_nil ⟨D, _, rfl, .inl (SqL.of hacc), ?_⟩
        rw [List.length_map]
        have s12' : Same G12 G1' := sG.trans sm
        refine ⟨_, rfl, _, rfl, _, rfl, st_nil (cd_good (hp12.same s12') hnd hpool h2 (by omega) (by omega) (by omega) (by omega) (by omega) fun G2' s2' => ?_)⟩
        rw [hzl, ← hc]
        exact ⟨_, rfl, _, _, rfl, .int _, fun G3' s3' => ⟨true, rfl, iteF ⟨_, _, rfl, s12'.trans (s2'.trans s3')⟩⟩⟩
    · rintro σ G ⟨w5, w6, rfl, sG⟩
      refine ⟨_, rfl, _, rfl, st_nil ⟨rfl, rfl, cd_good (y := 1) (hp12.same sG) hnd hpool h2 (by omega) (by omega) (by omega) (by decide) (by decide) fun G2' s2' => ?_⟩⟩
      rw [hzl, hone]
      exact ⟨_, rfl, _, _, rfl, .int _, fun G3' s3' => fin _ (sG.trans (s2'.trans s3'))⟩

end
end RK

namespace RK
open PySem L2
/-! ### great cases -/
def factI : Nat → Int
  | 0 => 1
  | n + 1 => factI n * ((n : Int) + 1)
def greatOk (n k : Nat) : Bool := let t := k * n * (n - 1) / 2
  decide (notedI n k 0 = 1) && decide (notedI n k ((t : Int) + 1) = 0) && decide (notedI n k t = factI n) && decide ((((List.range (t + 2)).map fun y : Nat => notedI n k (y : Int)).sum) = ((k : Int) * n + 1) ^ (n - 1))
theorem all_great : ∀ n ∈ [5, 6], ∀ k ∈ [1, 2], greatOk n k = true ∧ k * n * (n - 1) / 2 ≤ 30 := by decide +kernel
def spGreatR : Sp := fun vs H Q _ => ∃ (a m : Nat), vs = [.ref a] ∧ SpAt H a m ∧ m < 100000000 ∧ ∀ H', SpAt H' a (m + 100) → But a H H' → Q (.bl true) H'
section
variable {P : Program} {w : World} {K : PySem.W.Frag} {mg : Str → Option Value} {base : Heap} {C CP CM CN fN : Addr}
theorem scGreatR : FnScope ["draws", "names", "most", "path", "top", "found", "orders", "turn", "number"] ["draws"] (defScope sGreatR) := ⟨rfl, rfl, rfl, by decide +kernel, rfl, by decide +kernel, by decide +kernel⟩
theorem ok_greatR {f fA fD fW fN fX fQ fO fP : Addr} {fd fdA fdD fdW fdN fdX fdQ fdO fdP : FuncData} (F : Fun K "_law_great_right" "_law_great_right" sGreatR f fd) (B : B0 K mg) (zsum : mg "sum" = none)
    (GA : FnOk P w K mg base (L2.CX P w) 4 fA fdA ["path", "most"] (spCountNotes K C CP CM)) (bA : Binds K fdA ["path", "most"] []) (gA : mg "count_notes" = some (.ref fA)) (kA9 : PySem.W.keepIn K (.ref fA) = true)
    (cA : KBn K fdA ["path", "most"] 0 ["most", "path"] (fun us ws => ws.reverse) (fun vs zs => zs.reverse))
    (GD : FnOk P w K mg base (L2.CX P w) 4 fD fdD ["path", "most", "number"] (spCountNoted K C CP CM CN)) (bD : Binds K fdD ["path", "most", "number"] []) (gD : mg "count_noted" = some (.ref fD)) (kD9 : PySem.W.keepIn K (.ref fD) = true)
    (cD : KBn K fdD ["path", "most", "number"] 0 ["number", "most", "path"] (fun us ws => ws.reverse) (fun vs zs => zs.reverse))
    (GW : FnOk P w K mg base CX0 4 fW fdW ["draws", "names"] (spQMade C)) (bW : Binds K fdW ["draws", "names"] []) (gW : mg "_law_made" = some (.ref fW)) (kW9 : PySem.W.keepIn K (.ref fW) = true)
    (GN : FnOk P w K mg base CX0 3 fN fdN ["draws", "many"] spNames) (bN : Binds K fdN ["draws", "many"] []) (gN : mg "_law_names" = some (.ref fN)) (kN9 : PySem.W.keepIn K (.ref fN) = true)
    (GX : FnOk P w K mg base CX0 1 fX fdX ["draws", "many"] spDraw) (bX : Binds K fdX ["draws", "many"] []) (gX : mg "_law_draw" = some (.ref fX)) (kX9 : PySem.W.keepIn K (.ref fX) = true)
    (GQ : FnOk P w K mg base CX0 3 fQ fdQ ["found", "due"] (spSame 2)) (bQ : Binds K fdQ ["found", "due"] []) (gQ : mg "_law_same" = some (.ref fQ)) (kQ9 : PySem.W.keepIn K (.ref fQ) = true)
    (GO : FnOk P w K mg base CX0 1 fO fdO ["base", "times"] spWPower) (bO : Binds K fdO ["base", "times"] []) (gO : mg "_law_power" = some (.ref fO)) (kO9 : PySem.W.keepIn K (.ref fO) = true)
    (GP : FnOk P w K mg base CX0 2 fP fdP ["draws", "some"] spPick) (bP : Binds K fdP ["draws", "some"] []) (gP : mg "_law_pick" = some (.ref fP)) (kP9 : PySem.W.keepIn K (.ref fP) = true) :
    FnOk P w K mg base CX0 6 f fd ["draws"] spGreatR := by
  refine F.ok scGreatR (fun vs H Q E h => ?_) (fun cdv A outer s H vs Q E hr h => ?_)
  · obtain ⟨a, m, rfl, _⟩ := h
    rfl
  · obtain ⟨a, m, rfl, hsp, hm, q⟩ := h
    have hu := hu_of hr
    have hr1 : Room 1 _ := hr.mono (by decide)
    have hr2 : Room 2 _ := hr.mono (by decide)
    have hr3 : Room 3 _ := hr.mono (by decide)
    have hr4 : Room 4 _ := hr.mono (by decide)
    refine ⟨_, pss_cons (ps_asg (pe_tup (pa_cons (pe_call GN hr3 (by rfl) gN kN9 bN .nil pass0 (pa_cons (pv 0) (pa_cons (pe_op op_add pe_int (pe_call GX hr1 (by rfl) gX kX9 bX .nil pass0 (pa_cons (pv 0) (pa_cons pe_int pa_nil)))) pa_nil))) (pa_cons (pe_call GP hr2 (by rfl) gP kP9 bP .nil pass0 (pa_cons (pv 0) (pa_cons (pe_lst (pa_cons pe_int (pa_cons pe_int (pa_cons pe_int (pa_cons (pe_op op_pow pe_int pe_int) pa_nil))))) pa_nil))) pa_nil))) (pg_tup rfl (pgs_cons (pg_name (i := 1) scGreatR.nd rfl (Or.inl rfl)) (pgs_cons (pg_name (i := 2) scGreatR.nd rfl (Or.inr rfl)) pgs_nil))))
      (pss_cons (ps_set (i := 3) scGreatR.nd rfl (Or.inr rfl) (pe_call GW hr4 (by rfl) gW kW9 bW .nil pass0 (pa_cons (pv 0) (pa_cons (pv 1) pa_nil))))
      (pss_cons (ps_if (pt_not (pt_val (pe_call GQ hr3 (by rfl) gQ kQ9 bQ .nil pass0 (pa_cons (pe_call GA hr4 (by rfl) gA kA9 bA .nil passL (pa_cons (pv 3) (pa_cons (pv 2) pa_nil))) (pa_cons (pe_call GO hr1 (by rfl) gO kO9 bO .nil pass0 (pa_cons (pe_op op_add (pe_op op_mul (pv 2) (pe_callB call_len_seq (by rfl) B.len PySem.boot_len (pa_cons (pv 1) pa_nil))) pe_int) (pa_cons (pe_op op_sub (pe_callB call_len_seq (by rfl) B.len PySem.boot_len (pa_cons (pv 1) pa_nil)) pe_int) pa_nil))) pa_nil))))) (pss_one (ps_ret pe_bl)) (pss_nil))
      (pss_cons (ps_asg (pe_tup (pa_cons (pe_call GN hr3 (by rfl) gN kN9 bN .nil pass0 (pa_cons (pv 0) (pa_cons (pe_op op_add pe_int (pe_call GX hr1 (by rfl) gX kX9 bX .nil pass0 (pa_cons (pv 0) (pa_cons pe_int pa_nil)))) pa_nil))) (pa_cons (pe_op op_add pe_int (pe_call GX hr1 (by rfl) gX kX9 bX .nil pass0 (pa_cons (pv 0) (pa_cons pe_int pa_nil)))) pa_nil))) (pg_tup rfl (pgs_cons (pg_name (i := 1) scGreatR.nd rfl (Or.inl rfl)) (pgs_cons (pg_name (i := 2) scGreatR.nd rfl (Or.inr rfl)) pgs_nil))))
      (pss_cons (ps_asg (pe_tup (pa_cons (pe_call GW hr4 (by rfl) gW kW9 bW .nil pass0 (pa_cons (pv 0) (pa_cons (pv 1) pa_nil))) (pa_cons (pe_op op_fdiv (pe_op op_mul (pe_op op_mul (pv 2) (pe_callB call_len_seq (by rfl) B.len PySem.boot_len (pa_cons (pv 1) pa_nil))) (pe_op op_sub (pe_callB call_len_seq (by rfl) B.len PySem.boot_len (pa_cons (pv 1) pa_nil)) pe_int)) pe_int) pa_nil))) (pg_tup rfl (pgs_cons (pg_name (i := 3) scGreatR.nd rfl (Or.inr rfl)) (pgs_cons (pg_name (i := 4) scGreatR.nd rfl (Or.inl rfl)) pgs_nil))))
      (pss_cons (ps_setLc (i := 5) (te := (tCall (spCountNoted K C CP CM CN) [] E0 (tCons (tVar 3) (tCons (tVar 2) (tCons (tVar 8) tNil))))) (own := [("number", 8)]) (g := (gName 8)) (tt := tYes) rfl scGreatR.nd rfl rfl (by rfl) (pi_range1 (by rfl) B.range (pa_cons (pe_op op_add (pv 4) pe_int) pa_nil)) (blkOk_by (N := ["draws", "names", "most", "path", "top", "found", "orders", "turn", "number"]) (sc := defScope sGreatR) (by decide +kernel))
        (fun _ _ _ _ _ => (pg_name (i := 8) scGreatR.nd rfl (Or.inl rfl))) (fun _ _ _ _ _ => pts_nil) (fun _ _ _ _ _ => by exact (pe_call GD hr4 (by rfl) gD kD9 bD .nil passL (pa_cons (pv 3) (pa_cons (pv 2) (pa_cons (pv 8) pa_nil))))))
      (pss_cons (ps_set (i := 6) scGreatR.nd rfl (Or.inl rfl) pe_int)
      (pss_cons (ps_for PassesOwn.never rfl (pi_range1 (by rfl) B.range (pa_cons (pe_callB call_len_seq (by rfl) B.len PySem.boot_len (pa_cons (pv 1) pa_nil)) pa_nil)) (pg_name (i := 7) scGreatR.nd rfl (Or.inl rfl))
        (pss_one (ps_set (i := 6) scGreatR.nd rfl (Or.inl rfl) (pe_op op_mul (pv 6) (pe_op op_add (pv 7) pe_int)))))
      (pss_cons (ps_if (PW.pt (pw_or (pt_cmpR op_ne (pe_ix ix_list (pv 5) pe_int (fun _ _ => rfl)) pe_int (nomark _)) (pw_or (pt_cmpR op_ne (pe_ix ix_list (pv 5) (pe_op op_add (pv 4) pe_int) (fun _ _ => rfl)) pe_int (nomark _)) (pw_or1 (pt_cmpR op_ne (pe_ix ix_list (pv 5) (pv 4) (fun _ _ => rfl)) (pv 6) (nomark _)))))) (pss_one (ps_ret pe_bl)) (pss_nil))
      (pss_one (ps_ret (pe_cmpR op_eq (pe_callB (cr_sum rfl) (by rfl) zsum (by decide +kernel) (pa_cons (pv 5) pa_nil)) (pe_call GA hr4 (by rfl) gA kA9 bA .nil passL (pa_cons (pv 3) (pa_cons (pv 2) pa_nil))) (nomark _)))))))))))), ?_⟩
    obtain ⟨osp, hosp, _⟩ := id hsp
    -- names and most
    refine ⟨_, rfl, _, rfl, a, 19, m, rfl, by decide, by decide, hsp, by omega, fun r0 o0 hr0 hr1' ho0 => ⟨_, _, rfl, rfl, ?_⟩⟩
    obtain ⟨t0, ht0⟩ : ∃ t : Nat, 2 + r0 = (t : Int) := ⟨(2 + r0).toNat, by omega⟩
    refine ⟨a, t0, m + 1, by rw [← ht0]; rfl, by omega, ⟨o0, upd_same, ho0⟩, by omega, fun n zs H1 hnd hpool hzl hn0 hn sp1 b1 => ?_⟩
    have han : a ≠ n := fun e => by rw [← e, upd_same] at hn0; cases hn0
    have b01 : But a H H1 := But.upd.trans b1
    refine ⟨_, rfl, _, _, rfl, rfl, ⟨by decide, by decide, by decide⟩, by show 4 ≤ sizeLine; decide, fun L0 hL0 => ?_⟩
    generalize hE : upd H1 L0 _ = H2
    have sH2 : Same H1 H2 := hE ▸ same_upd hL0
    have eL0 := congrFun hE.symm L0
    rw [upd_same] at eL0
    clear hE
    have haL : a ≠ L0 := fun e => sp1.ne (by rw [e]; exact hL0)
    refine ⟨a, L0, _, m + 21, rfl, haL, (sp1.same sH2).up (by omega), by omega, eL0, by decide, by decide, fun v o hv ho => ?_⟩
    obtain ⟨k, rfl, hk1, hk2⟩ : ∃ k : Int, v = .int k ∧ 1 ≤ k ∧ k ≤ 1000000 := by
      simp only [List.mem_cons, List.not_mem_nil, or_false] at hv
      rcases hv with rfl | rfl | rfl | rfl
      · exact ⟨1, rfl, by decide, by decide⟩
      · exact ⟨2, rfl, by decide, by decide⟩
      · exact ⟨30, rfl, by decide, by decide⟩
      · exact ⟨1000000, rfl, by decide, by decide⟩
    clear hv
    have b23 : But a H2 (upd H2 a o) := But.upd
    have sp3 : SpAt (upd H2 a o) a (m + 22) := ⟨o, upd_same, ho⟩
    generalize upd H2 a o = H3 at b23 sp3 ⊢
    have b03 : But a H H3 := b01.trans ((Same.but sH2).trans b23)
    have hn3 := b23 _ _ (Ne.symm han) (sH2 _ _ hn)
    refine ⟨by show 2 ≤ sizeLine; decide, fun T0 hT0 => ?_⟩
    generalize hE : upd H3 T0 _ = H4
    have sH4 : Same H3 H4 := hE ▸ same_upd hT0
    have eT0 := congrFun hE.symm T0
    rw [upd_same] at eT0
    clear hE
    refine ⟨T0, _, rfl, SqT.of eT0, rfl, _, _, rfl, _, _, rfl, rfl, ?_⟩
    have h2 : 2 ≤ zs.length := by omega
    have h20 : zs.length ≤ 20 := by omega
    refine ⟨_, rfl, _, rfl, a, n, zs, m + 22, rfl, han, sp3.same sH4, by omega, sH4 _ _ hn3, hnd, fun y hy => pool_names y (hpool y hy), fun y hy => pool_len y (hpool y hy), h2, by omega, fun p t H5 hp hpa hta sp5 b5 => ?_⟩
    have hn5 := b5 _ _ (Ne.symm han) (sH4 _ _ hn3)
    have b05 : But a H H5 := b03.trans ((Same.but sH4).trans b5)
    -- the one power
    refine ⟨_, rfl, _, rfl, st_nil (cn_good hp hnd hpool h2 h20 hk1 (by omega) fun H6 s6 => ?_)⟩
    have hX : k * (zs.length : Int) ≤ 1000000 * 20 := Int.mul_le_mul hk2 (by omega) (by omega) (by decide)
    have hX0 : 0 ≤ k * (zs.length : Int) := Int.mul_nonneg (by omega) (by omega)
    refine ⟨_, rfl, _, rfl, n, zs.map V.str, rfl, .inl (SqL.of (s6 _ _ hn5)), ?_⟩
    rw [List.length_map]
    refine ⟨_, _, rfl, rfl, Or.inl ⟨by omega, by omega⟩, _, _, rfl, rfl, _, rfl, n, zs.map V.str, rfl, .inl (SqL.of (s6 _ _ hn5)), ?_⟩
    rw [List.length_map]
    refine ⟨_, _, rfl, rfl, k * (zs.length : Int) + 1, zs.length - 1, by rw [show ((zs.length - 1 : Nat) : Int) = (zs.length : Int) - 1 by omega]; rfl, ⟨by omega, by omega, by omega⟩, ?_⟩
    refine ⟨_, _, rfl, .int _, fun H7 s7 => ⟨true, rfl, iteF ?_⟩⟩
    have s57 : Same H5 H7 := s6.trans s7
    have sp7 := sp5.same s57
    -- five or six names, one or two
    refine ⟨_, rfl, _, rfl, a, 2, m + 23, rfl, by decide, by decide, sp7.up (by omega), by omega, fun r1 o1 hr10 hr11 ho1 => ⟨_, _, rfl, rfl, ?_⟩⟩
    obtain ⟨t1, ht1⟩ : ∃ t : Nat, 5 + r1 = (t : Int) := ⟨(5 + r1).toNat, by omega⟩
    refine ⟨a, t1, m + 24, by rw [← ht1]; rfl, by omega, ⟨o1, upd_same, ho1⟩, by omega, fun N ys G1 hnd' hpool' hyl hN0 hN sg1 c1 => ?_⟩
    have haN : a ≠ N := fun e => by rw [← e, upd_same] at hN0; cases hN0
    have c71 : But a H7 G1 := But.upd.trans c1
    refine ⟨_, rfl, a, 2, m + 44, rfl, by decide, by decide, sg1, by omega, fun r2 o2 hr20 hr21 ho2 => ⟨_, _, rfl, rfl, ?_⟩⟩
    obtain ⟨kk, hkk⟩ : ∃ t : Nat, 1 + r2 = (t : Int) := ⟨(1 + r2).toNat, by omega⟩
    simp only [hkk]
    have c12 : But a G1 (upd G1 a o2) := But.upd
    have sg2 : SpAt (upd G1 a o2) a (m + 45) := ⟨o2, upd_same, ho2⟩
    generalize upd G1 a o2 = G2 at c12 sg2 ⊢
    have c72 := c71.trans c12
    have hN2 := c12 _ _ (Ne.symm haN) hN
    refine ⟨by show 2 ≤ sizeLine; decide, fun T1 hT1 => ?_⟩
    generalize hE : upd G2 T1 _ = G3
    have sG3 : Same G2 G3 := hE ▸ same_upd hT1
    have eT1 := congrFun hE.symm T1
    rw [upd_same] at eT1
    clear hE
    refine ⟨T1, _, rfl, SqT.of eT1, rfl, _, _, rfl, _, _, rfl, rfl, ?_⟩
    have hy2 : 2 ≤ ys.length := by omega
    have hy56 : ys.length = 5 ∨ ys.length = 6 := by omega
    have hk12 : kk = 1 ∨ kk = 2 := by omega
    have hN3 := sG3 _ _ hN2
    refine ⟨_, rfl, _, rfl, a, N, ys, m + 45, rfl, haN, sg2.same sG3, by omega, hN3, hnd', fun y hy => pool_names y (hpool' y hy), fun y hy => pool_len y (hpool' y hy), hy2, by omega, fun p' t' G4 hp' hpa' hta' sg4 c34 => ?_⟩
    have hN4 := c34 _ _ (Ne.symm haN) hN3
    have b0G : But a H G4 := b05.trans ((Same.but s57).trans (c72.trans ((Same.but sG3).trans c34)))
    obtain ⟨hok, h30⟩ := all_great ys.length (by simp only [List.mem_cons, List.not_mem_nil, or_false]; omega) kk (by simp only [List.mem_cons, List.not_mem_nil, or_false]; omega)
    unfold greatOk at hok
    simp only [Bool.and_eq_true] at hok
    obtain ⟨⟨⟨d1, d2⟩, d3⟩, d4⟩ := hok
    have e0 := of_decide_eq_true d1
    have eT := of_decide_eq_true d2
    have eF := of_decide_eq_true d3
    have eS := of_decide_eq_true d4
    clear d1 d2 d3 d4
    have hXe : ((kk : Int) * (ys.length : Int) * ((ys.length : Int) - 1) / 2) = ((kk * ys.length * (ys.length - 1) / 2 : Nat) : Int) := by
      rw [show ((ys.length : Int) - 1) = ((ys.length - 1 : Nat) : Int) by omega, ← Int.natCast_mul, ← Int.natCast_mul]
      omega
    have hfin : ∀ G', Same G4 G' → Q (.bl true) G' := fun G' s' => q G' ((sg4.same s').up (by omega)) (b0G.trans (Same.but s'))
    generalize hn : ys.length = nn at *
    refine ⟨_, rfl, _, rfl, N, ys.map V.str, rfl, .inl (SqL.of hN4), ?_⟩
    rw [List.length_map, hn]
    refine ⟨_, _, rfl, rfl, Or.inl ⟨by omega, by omega⟩, _, rfl, N, ys.map V.str, rfl, .inl (SqL.of hN4), ?_⟩
    rw [List.length_map, hn]
    refine ⟨_, _, rfl, rfl, _, _, rfl, rfl, Or.inr ⟨by omega, by omega⟩, _, _, rfl, rfl, ⟨by decide, by decide⟩, ?_⟩
    rw [show (fun i j : Int => V.int (i / j)) ((kk : Int) * (nn : Int) * ((nn : Int) - 1)) 2 = V.int ((kk * nn * (nn - 1) / 2 : Nat) : Int) from congrArg V.int hXe]
    generalize kk * nn * (nn - 1) / 2 = top at *
    refine ⟨by show 2 ≤ sizeLine; decide, fun T2 hT2 => ?_⟩
    generalize hE : upd G4 T2 _ = G5
    have sG5 : Same G4 G5 := hE ▸ same_upd hT2
    have eT2 := congrFun hE.symm T2
    rw [upd_same] at eT2
    clear hE
    refine ⟨T2, _, rfl, SqT.of eT2, rfl, _, _, rfl, _, _, rfl, rfl, ?_⟩
    -- all numbers
    have hN5 := sG5 _ _ hN4
    refine ⟨_, rfl, _, _, rfl, rfl, ((top + 2 : Nat) : Int), congrArg (fun i => [V.int i]) (by omega : (top : Int) + 2 = ((top + 2 : Nat) : Int)), by omega, by omega, fun D hD => ?_⟩
    rw [Int.toNat_natCast]
    refine lc_it (walk_range (lo := 0) (n := top + 2)) (fun j G' => Same G5 G' ∧ G' D = some (.lst (((List.range j).map fun y : Nat => notedI nn kk (y : Int)).map V.int))) ⟨same_upd hD, upd_same⟩ (fun _ _ _ _ => True.intro) ?_ ?_
    · rintro j x G1' G2' hj ⟨sm, hacc⟩ ⟨rfl, rfl⟩
      rw [show (fun i : Nat => V.int (0 + (i : Int))) j = V.int (j : Int) from congrArg V.int (Int.zero_add _)]
      refine ⟨rfl, tyes ⟨_, rfl, _, rfl, _, rfl, st_nil (cd_good (hp'.same (sG5.trans sm)) hnd' hpool' (by omega) (by omega) (by omega) (by omega) (by omega) (by omega) fun G6 s6' => ?_)⟩⟩
      rw [hn]
      refine ⟨_, s6' _ _ hacc, ?_, fun c o hb => ?_, ?_⟩
      · rw [List.length_map, List.length_map, List.length_range]
        exact Nat.lt_of_le_of_lt (show j ≤ 32 by omega) (by decide)
      · rw [upd_ne (ne_of_none hb hD)]
        exact s6' _ _ (sm _ _ hb)
      · rw [upd_same, List.range_succ, List.map_append, List.map_append]
        rfl
    rintro G6 ⟨sG6, eD⟩
    have hN6 := sG6 _ _ hN5
    have hat : ∀ y, y < top + 2 → atI (((List.range (top + 2)).map fun y : Nat => notedI nn kk (y : Int)).map V.int) ((y : Nat) : Int) = some (.int (notedI nn kk (y : Nat))) := fun y hy => atI_nat (by rw [List.getElem?_map, List.getElem?_map, List.getElem?_range hy]; rfl)
    generalize hL : (List.range (top + 2)).map (fun y : Nat => notedI nn kk (y : Int)) = LL at *
    refine ⟨_, rfl, N, ys.map V.str, rfl, .inl (SqL.of hN6), ((nn : Nat) : Int), by rw [List.length_map, hn], by omega, by omega, ?_⟩
    rw [Int.toNat_natCast]
    refine for_range (n := nn) (fun i σ G => ∃ w7, σ = [some (.ref a), some (.ref N), some (.int kk), some (.ref p'), some (.int top), some (.ref D), some (.int (factI i)), w7, none] ∧ G = G6) ⟨none, rfl, rfl⟩ ?_ ?_
    · rintro i σ G hi ⟨w7, rfl, rfl⟩
      rw [show (0 : Int) + (i : Nat) = (i : Int) from Int.zero_add _]
      exact ⟨_, rfl, _, rfl, _, _, rfl, rfl, _, _, rfl, rfl, Or.inr ⟨by omega, by omega⟩, some (.int (i : Int)), rfl, rfl⟩
    rintro σ G ⟨w7, rfl, rfl⟩
    refine ⟨_, rfl, D, _, 0, .int 1, rfl, rfl, SqL.of eD, (by rw [← e0]; exact hat 0 (by omega)), rfl, false, congrArg V.bl (by rw [decide_eq_true rfl]; rfl), iteF ?_⟩
    refine ⟨_, rfl, _, rfl, _, _, rfl, rfl, D, _, ((top + 1 : Nat) : Int), .int 0, rfl, congrArg V.int (by omega : (top : Int) + 1 = ((top + 1 : Nat) : Int)), SqL.of eD, (by rw [← eT]; exact hat (top + 1) (by omega)), rfl, false, congrArg V.bl (by rw [decide_eq_true rfl]; rfl), iteF ?_⟩
    refine ⟨_, rfl, _, rfl, D, _, ((top : Nat) : Int), .int (factI nn), rfl, rfl, SqL.of eD, (by rw [← eF]; exact hat top (by omega)), _, rfl, rfl, false, congrArg V.bl (by rw [decide_eq_true rfl]; rfl), iteF ?_⟩
    refine ⟨_, rfl, D, LL, rfl, SqL.of eD, _, rfl, _, rfl, st_nil (cn_good (hp'.same (sG5.trans sG6)) hnd' hpool' (by omega) (by omega) (by omega) (by omega) fun G7 s7' => ?_)⟩
    rw [hn, eS]
    refine ⟨rfl, ?_⟩
    rw [decide_eq_true rfl]
    exact hfin _ (sG5.trans (sG6.trans s7'))

end
end RK

/-! repr of a list of data at any depth and a dict of integers -/
namespace L2
open PySem PySem.Spec PyProof.Rows
mutual
theorem reads_lists {h : Heap} : ∀ (d : PyData) (u : Value) (as : List Addr), Reads h u d as → d.hasDict = false → ∀ b ∈ as, ∃ o vs n, h.get? b = some o ∧ o.data = .seq vs n
  | .none, _, _, r, _ => by cases r; exact fun _ z => nomatch z
  | .bool _, _, _, r, _ => by cases r; exact fun _ z => nomatch z
  | .int _, _, _, r, _ => by cases r; exact fun _ z => nomatch z
  | .str _, _, _, r, _ => by cases r; exact fun _ z => nomatch z
  | .list ds, _, _, r, e => by
    cases r with
    | list h1 _ h3 h4 =>
      intro b hb
      rcases List.mem_cons.mp hb with q | q
      · subst q
        exact ⟨_, _, _, h1, h3⟩
      · exact reads_listsA ds _ _ h4 (by simpa only [PyData.hasDict] using e) b q
  | .tuple ds, _, _, r, e => by
    cases r with
    | tuple h1 _ h3 h4 => exact reads_listsA ds _ _ h4 (by simpa only [PyData.hasDict] using e)
  | .dict _, _, _, _, e => by simp only [PyData.hasDict] at e; cases e
theorem reads_listsA {h : Heap} : ∀ (ds : List PyData) (us : List Value) (as : List Addr), ReadsAll h us ds as → PyData.hasDictAll ds = false → ∀ b ∈ as, ∃ o vs n, h.get? b = some o ∧ o.data = .seq vs n
  | [], _, _, r, _ => by cases r; exact fun _ z => nomatch z
  | d :: ds, _, _, r, e => by
    cases r with
    | cons h1 h2 =>
      simp only [PyData.hasDictAll, Bool.or_eq_false_iff] at e
      intro b hb
      rcases List.mem_append.mp hb with q | q
      · exact reads_lists d _ _ h1 e.1 b q
      · exact reads_listsA ds _ _ h2 e.2 b q
end
mutual
theorem Dp.noDict {K : PySem.W.Frag} {H : Hp} : ∀ (d : PyData) (v : V), Dp K H v d → d.hasDict = false
  | .none, _, _ => by simp only [PyData.hasDict]
  | .bool _, _, _ => by simp only [PyData.hasDict]
  | .int _, _, _ => by simp only [PyData.hasDict]
  | .str _, _, _ => by simp only [PyData.hasDict]
  | .list ds, _, h => by
    cases h with
    | lst _ ha => simp only [PyData.hasDict]; exact DpAll.noDict ds _ ha
  | .tuple ds, _, h => by
    cases h with
    | tup _ ha => simp only [PyData.hasDict]; exact DpAll.noDict ds _ ha
  | .dict _, _, h => by cases h
theorem DpAll.noDict {K : PySem.W.Frag} {H : Hp} : ∀ (ds : List PyData) (vs : List V), DpAll K H vs ds → PyData.hasDictAll ds = false
  | [], _, _ => by simp only [PyData.hasDictAll]
  | d :: ds, _, h => by
    cases h with
    | cons h1 h2 => simp only [PyData.hasDictAll, Dp.noDict d _ h1, DpAll.noDict ds _ h2, Bool.or_false]
end
def rReprN (K : PySem.W.Frag) : List V → Hp → VK → Prop := fun xs H Q => ∃ (l d : Addr) (x : V) (D : PyData) (kvs : List (Key × V)), xs = [.ref l] ∧ H l = some (.lst [x, .ref d]) ∧ Dp K H x D ∧ H d = some (.dK kvs) ∧ (∀ kv ∈ kvs, ∃ i : Int, kv.2 = .int i) ∧
  (PyData.list [D, dictD kvs]).showable = true ∧ (PyData.list [D, dictD kvs]).shown.length ≤ sizeLine ∧ D.depth ≤ 20 ∧ Q (.str (PyData.list [D, dictD kvs]).shown) H
theorem call_reprN {X : Cx} (quiet : X.A.guards = some []) (hu : X.A.units + 60 < cLine) (mods : ∃ mm, X.base.Ns sysModules mm) : CallR X (.builtin "repr") (rReprN X.K) := by
  intro pins s σ H xs us Q I r h
  obtain ⟨l, d, x, D, kvs, rfl, hl, hD, hd, hint, hshow, hsize, hdep, q⟩ := h
  cases r with
  | cons r1 r2 =>
    cases r2
    cases r1
    obtain ⟨its, rv, ⟨o, n, ho, hc, _, hdat⟩, _⟩ := I.list (SqL.of hl)
    obtain ⟨hlen, hsys, vs, kv, od, es, ep, hod, hex, hdd, hkeys, hpairs, hnd⟩ := I.hok d _ hd
    obtain ⟨k1, k2⟩ := pairs_read (h := s.heap) hpairs kv hint
    have rd : Reads s.heap (.ref d) (dictD kvs) (d :: [] ++ []) := Reads.dict hod hex.1 hdd k1 k2
    cases rv with
    | cons r1 r2 =>
      cases r2 with
      | cons r3 r4 =>
        cases r4
        cases r3
        obtain ⟨as, ra⟩ := Dp.reads I D x _ hD r1
        have all : ReadsAll s.heap [_, .ref d] [D, dictD kvs] (as ++ ((d :: [] ++ []) ++ [])) := .cons ra (.cons rd .nil)
        have whole : Reads s.heap (.ref l) (.list [D, dictD kvs]) (l :: (as ++ ((d :: [] ++ []) ++ []))) := Reads.list ho hc hdat all
        obtain ⟨mm, om, esm, epm, hom, hdm, _⟩ := mods
        have hms : s.heap.get? sysModules = some om := I.bk _ _ hom
        have dep : (PyData.list [D, dictD kvs]).depth ≤ 22 := by
          simp only [PyData.depth, PyData.depthAll, depth_dict]
          omega
        refine repr_of_reads' whole hshow (fun _ hm => ?_) quiet (by omega) (fun _ _ e => e) (fun h' u tk hk => ⟨.str (PyData.list [D, dictD kvs]).shown, H, I.kept fun b o e => hk b o e, ⟨u, rfl⟩, q⟩) hsize
        rcases List.mem_cons.mp hm with e | e
        · rw [← e, hms] at ho
          cases ho
          rw [hdm] at hdat
          cases hdat
        · rcases List.mem_append.mp e with e | e
          · obtain ⟨o2, vs2, n2, h2, h3⟩ := reads_lists D _ _ ra (Dp.noDict D x hD) _ e
            rw [hms] at h2
            cases h2
            rw [hdm] at h3
            cases h3
          · have e2 : sysModules = d := by simpa using e
            rw [e2] at hsys
            simp at hsys
end L2

/-! repr of a list of plain data -/
namespace L2
open PySem PySem.Spec PyProof.Rows
def rReprV (K : PySem.W.Frag) : List V → Hp → VK → Prop := fun xs H Q => ∃ (l : Addr) (D : PyData), xs = [.ref l] ∧ Dp K H (.ref l) D ∧ D.showable = true ∧ D.shown.length ≤ sizeLine ∧ D.depth ≤ 20 ∧ Q (.str D.shown) H
theorem call_reprV {X : Cx} (quiet : X.A.guards = some []) (hu : X.A.units + 60 < cLine) : CallR X (.builtin "repr") (rReprV X.K) := by
  intro pins s σ H xs us Q I r h
  obtain ⟨l, D, rfl, hD, hshow, hsize, hdep, q⟩ := h
  cases r with
  | cons r1 r2 =>
    cases r2
    obtain ⟨as, ra⟩ := Dp.reads I D _ _ hD r1
    cases r1
    exact repr_of_reads' ra hshow (fun hm => by rw [Dp.noDict D _ hD] at hm; cases hm) quiet (by omega) (fun _ _ e => e) (fun h' u tk hk => ⟨.str D.shown, H, I.kept fun b o e => hk b o e, ⟨u, rfl⟩, q⟩) hsize
end L2

namespace L2
open PySem PySem.Spec PyProof.Rows
/-! a local name that holds one of several defs, which may raise -/
structure HeldX (P : Program) (w : World) (K : PySem.W.Frag) (mg : Str → Option Value) (base : Heap) (k : Nat) (f : Addr) (sp : Sp) : Prop where
  ex : ∃ (fd : FuncData) (ps : List Str), FnOk P w K mg base (L2.CX P w) k f fd ps sp ∧ PySem.W.keepIn K (.ref f) = true ∧ Binds K fd ps []
def tCallX (i : Nat) (S : Addr → Sp → Prop) (E : XK) (t : TA) : TE := fun σ H Q => ∃ f sp, σ[i]? = some (some (.ref f)) ∧ S f sp ∧ t σ H fun vs H1 => sp vs H1 Q E
theorem pe_callX {X : Cx} {k i : Nat} {E : XK} {x : Str} {p pos : Pos} {e : Expr} {es : List Expr} {t : TA} {S : Addr → Sp → Prop} (A : ∀ f sp, S f sp → HeldX X.prog X.w X.K X.mg X.base k f sp) (hr : Room k X.A) (hN : X.N[i]? = some x) (hv : Vis X.env.scope x) (hx : Passes (L2.CX X.prog X.w) X E) (ha : PA X (e :: es) t)
    (hdb : (x == ("__debug__" : Str)) = false := by decide) (hcd : (x == ("__classdict__" : Str)) = false := by decide)
    (he : starEach (e :: es) X.env = (false, eval e X.env) :: starEach es X.env := by rfl) (hpl : (backTo pos (starEach es X.env)).any (·.1) = false := by rfl) : PE X (.Call (.Name x p) (e :: es) [] pos) (tCallX i S E t) := by
  refine ⟨fun pins s σ H Q I h => ?_⟩
  obtain ⟨f, sp, hs, hS, ht⟩ := h
  obtain ⟨fd, ps, F, hk, hb⟩ := (A f sp hS).ex
  refine (pe_callL (i := i) (f := f) (sp := sp) (dvs := []) (E := E) F hr hN hv hk hb .nil hx ha hdb hcd he hpl).run pins s σ H Q I ⟨hs, ?_⟩
  have e0 : (fun (vs : List V) (H1 : Hp) => sp (vs ++ []) H1 Q E) = fun vs H1 => sp vs H1 Q E := by
    funext vs H1
    rw [List.append_nil]
  show t σ H (fun vs H1 => sp (vs ++ []) H1 Q E)
  rw [e0]
  exact ht
end L2

namespace RK
open PySem L2
/-! ### what is asked; in turns -/
def askL (n : Nat) (k : Int) : List Int := [(k * (n : Int) + 1) ^ (n - 1), notedI n k 0, notedI n k 2, notedI n k 5]
theorem ask_small : ∀ n < 6, ∀ k < 6, ((askL n (k : Nat)).all fun i => decide (i.natAbs < 2 ^ 60)) = true := by decide +kernel
def askD (n : Nat) (k : Int) : PyData := .list ((askL n k).map PyData.int)
theorem ask_text {n : Nat} {k : Int} (hn : n ≤ 5) (h1 : 0 ≤ k) (h5 : k ≤ 5) : (askD n k).showable = true ∧ (askD n k).shown.length ≤ sizeLine ∧ (askD n k).depth ≤ 20 := by
  obtain ⟨kk, rfl⟩ : ∃ t : Nat, k = (t : Int) := ⟨k.toNat, by omega⟩
  have h := List.all_eq_true.mp (ask_small n (by omega) kk (by omega))
  have b : ∀ i ∈ askL n (kk : Nat), i.natAbs < 2 ^ 400 := fun i hi => Nat.lt_of_lt_of_le (of_decide_eq_true (h i hi)) (Nat.pow_le_pow_right (by decide) (by decide))
  unfold askL at b
  have b1 := b _ (List.mem_cons_self)
  have b2 := b _ (List.mem_cons_of_mem _ List.mem_cons_self)
  have b3 := b _ (List.mem_cons_of_mem _ (List.mem_cons_of_mem _ List.mem_cons_self))
  have b4 := b _ (List.mem_cons_of_mem _ (List.mem_cons_of_mem _ (List.mem_cons_of_mem _ List.mem_cons_self)))
  unfold askD askL
  generalize ((kk : Int) * (n : Int) + 1) ^ (n - 1) = x1 at *
  generalize notedI n (kk : Int) 0 = x2 at *
  generalize notedI n (kk : Int) 2 = x3 at *
  generalize notedI n (kk : Int) 5 = x4 at *
  refine ⟨?_, ?_, ?_⟩
  · simp only [List.map_cons, List.map_nil, PyData.showable, PyData.showableAll, Bool.and_true]
    have := @show_int
    simp only [PyData.showable] at this
    rw [this b1, this b2, this b3, this b4]
    rfl
  · have h := listText_len_le [(PyData.int x1).shown, (PyData.int x2).shown, (PyData.int x3).shown, (PyData.int x4).shown]
    have l1 := int_short b1
    have l2 := int_short b2
    have l3 := int_short b3
    have l4 := int_short b4
    simp only [List.map_cons, List.map_nil]
    rw [show (PyData.list [PyData.int x1, PyData.int x2, PyData.int x3, PyData.int x4]).shown = listText [(PyData.int x1).shown, (PyData.int x2).shown, (PyData.int x3).shown, (PyData.int x4).shown] by simp only [PyData.shown, PyData.shownAll]]
    simp only [List.map_cons, List.map_nil, List.sum_cons, List.sum_nil, List.length_cons, List.length_nil] at h
    have : sizeLine = 16777216 := rfl
    omega
  · simp only [List.map_cons, List.map_nil, PyData.depth, PyData.depthAll]
    decide
theorem dp_ints {K : PySem.W.Frag} {H : Hp} : ∀ {ns : List Int}, DpAll K H (ns.map V.int) (ns.map PyData.int)
  | [] => .nil
  | i :: r => .cons (.int i) dp_ints
def spAsked (C : Addr) : Sp := fun vs H Q _ => ∃ (p t : Addr) (zs : List Str) (k : Int), vs = [.ref p, .int k] ∧ PathAt C H p t zs ∧ zs.Nodup ∧ (∀ z ∈ zs, z ∈ pool) ∧ 2 ≤ zs.length ∧ zs.length ≤ 5 ∧ 1 ≤ k ∧ k ≤ 5 ∧
  ∀ L H', H' L = some (.lst ((askL zs.length k).map V.int)) → Same H H' → Q (.ref L) H'
def spTurns (C fA : Addr) : Sp := fun vs H Q _ => ∃ (a n l : Addr) (zs : List Str) (ks : List Int) (m : Nat), vs = [.ref a, .ref n, .ref fA, .ref l] ∧ a ≠ n ∧ l ≠ a ∧ SpAt H a m ∧ m < 1000000000 ∧ H n = some (.lst (zs.map V.str)) ∧ H l = some (.lst (ks.map V.int)) ∧ ks.length = 2 ∧ (∀ k ∈ ks, 1 ≤ k ∧ k ≤ 5) ∧ zs.Nodup ∧ (∀ z ∈ zs, z ∈ pool) ∧ 2 ≤ zs.length ∧ zs.length ≤ 5 ∧
  ∀ H', SpAt H' a (m + 1000) → But a H H' → Q (.bl true) H'
section
variable {P : Program} {w : World} {K : PySem.W.Frag} {mg : Str → Option Value} {base : Heap} {C CP CM CN fN : Addr}
theorem scAsked : FnScope ["path", "most"] ["path", "most"] (defScope sAsked) := ⟨rfl, rfl, rfl, by decide +kernel, rfl, by decide +kernel, by decide +kernel⟩
theorem ok_asked {f fA fD : Addr} {fd fdA fdD : FuncData} (F : Fun K "_law_asked" "_law_asked" sAsked f fd) 
    (GA : FnOk P w K mg base (L2.CX P w) 4 fA fdA ["path", "most"] (spCountNotes K C CP CM)) (bA : Binds K fdA ["path", "most"] []) (gA : mg "count_notes" = some (.ref fA)) (kA9 : PySem.W.keepIn K (.ref fA) = true)
    (GD : FnOk P w K mg base (L2.CX P w) 4 fD fdD ["path", "most", "number"] (spCountNoted K C CP CM CN)) (bD : Binds K fdD ["path", "most", "number"] []) (gD : mg "count_noted" = some (.ref fD)) (kD9 : PySem.W.keepIn K (.ref fD) = true) :
    FnOk P w K mg base CX0 5 f fd ["path", "most"] (spAsked C) := by
  refine F.ok scAsked (fun vs H Q E h => ?_) (fun cdv A outer s H vs Q E hr h => ?_)
  · obtain ⟨p, t, zs, k, rfl, _⟩ := h
    rfl
  · obtain ⟨p, t, zs, k, rfl, hp, hnd, hpool, h2, h5, hk1, hk5, q⟩ := h
    have hu := hu_of hr
    have hr4 : Room 4 _ := hr.mono (by decide)
    refine ⟨_, pss_one (ps_ret (pe_lst (pa_cons (pe_call GA hr4 (by rfl) gA kA9 bA .nil passL (pa_cons (pv 0) (pa_cons (pv 1) pa_nil))) (pa_cons (pe_call GD hr4 (by rfl) gD kD9 bD .nil passL (pa_cons (pv 0) (pa_cons (pv 1) (pa_cons pe_int pa_nil)))) (pa_cons (pe_call GD hr4 (by rfl) gD kD9 bD .nil passL (pa_cons (pv 0) (pa_cons (pv 1) (pa_cons pe_int pa_nil)))) (pa_cons (pe_call GD hr4 (by rfl) gD kD9 bD .nil passL (pa_cons (pv 0) (pa_cons (pv 1) (pa_cons pe_int pa_nil)))) pa_nil)))))), ?_⟩
    refine ⟨_, rfl, _, rfl, st_nil (cn_good hp hnd hpool h2 (by omega) hk1 (by omega) fun H1 s1 => ?_)⟩
    refine ⟨_, rfl, _, rfl, st_cons (st_c (st_nil (cd_good (y := 0) (hp.same s1) hnd hpool h2 (by omega) hk1 (by omega) (by decide) (by decide) fun H2 s2 => ?_)))⟩
    refine ⟨_, rfl, _, rfl, st_cons (st_c (st_nil (cd_good (y := 2) (hp.same (s1.trans s2)) hnd hpool h2 (by omega) hk1 (by omega) (by decide) (by decide) fun H3 s3 => ?_)))⟩
    refine ⟨_, rfl, _, rfl, st_cons (st_c (st_nil (cd_good (y := 5) (hp.same (s1.trans (s2.trans s3))) hnd hpool h2 (by omega) hk1 (by omega) (by decide) (by decide) fun H4 s4 => ?_)))⟩
    refine st_nil ⟨by show 4 ≤ sizeLine; decide, fun L hL => ?_⟩
    exact q L _ upd_same (s1.trans (s2.trans (s3.trans (s4.trans (same_upd hL)))))

theorem scInTurns : FnScope ["draws", "names", "ask", "things", "made", "rows", "found", "thing"] ["draws", "names", "ask", "things"] (defScope sInTurns) := ⟨rfl, rfl, rfl, by decide +kernel, rfl, by decide +kernel, by decide +kernel⟩
theorem ok_inTurns {f fM : Addr} {fd fdM : FuncData} {fA : Addr} {fdA : FuncData} (F : Fun K "_law_in_turns" "_law_in_turns" sInTurns f fd) (B : B0 K mg) (zrepr : mg "repr" = none) (mods : ∃ mm, base.Ns sysModules mm) (GA : FnOk P w K mg base CX0 5 fA fdA ["path", "most"] (spAsked C)) (bA : Binds K fdA ["path", "most"] []) (kA9 : PySem.W.keepIn K (.ref fA) = true)
    (GM : FnOk P w K mg base CX0 4 fM fdM ["draws", "names"] (spQMade C)) (bM : Binds K fdM ["draws", "names"] []) (gM : mg "_law_made" = some (.ref fM)) (kM9 : PySem.W.keepIn K (.ref fM) = true) :
    FnG P w K mg base CX0 8 f fd ["draws", "names", "ask", "things"] (spTurns C fA) := by
  refine F.okG scInTurns (fun vs H Q E h => ?_) (fun cdv A outer s H vs Q E hr quiet h => ?_)
  · obtain ⟨a, n, l, zs, ks, m, rfl, _⟩ := h
    rfl
  · obtain ⟨a, n, l, zs, ks, m, rfl, han, hla, hsp, hm, hn, hl, hls, hks, hnd, hpool, h2, h5, q⟩ := h
    have hu := hu_of hr
    have hr4 : Room 4 _ := hr.mono (by decide)
    have hu60 : _ + 60 < cLine := Nat.lt_of_le_of_lt (Nat.add_le_add_left (by decide : 60 ≤ 64) _) hr.units
    have hr5 : Room 5 _ := hr.mono (by decide)
    refine ⟨_, pss_cons (ps_asg (pe_tup (pa_cons (pe_call GM hr4 (by rfl) gM kM9 bM .nil pass0 (pa_cons (pv 0) (pa_cons (pv 1) pa_nil))) (pa_cons (pe_op op_cat (pe_callTy call_list_of (by rfl) B.list (by decide +kernel) (pa_cons (pv 3) pa_nil)) (pe_slice sl_list (pe_callTy call_list_of (by rfl) B.list (by decide +kernel) (pa_cons (pv 3) pa_nil)) po_none (po_some pe_int))) pa_nil))) (pg_tup rfl (pgs_cons (pg_name (i := 4) scInTurns.nd rfl (Or.inr rfl)) (pgs_cons (pg_name (i := 5) scInTurns.nd rfl (Or.inl rfl)) pgs_nil))))
      (pss_cons (ps_setLc (i := 6) (te := (tCB (rReprV K) (tCons (tCallL 2 fA (spAsked C) [] E0 (tCons (tVar 4) (tCons (tVar 7) tNil))) tNil))) (own := [("thing", 7)]) (g := (gName 7)) (tt := tYes) rfl scInTurns.nd rfl rfl (by rfl) (pi_list (pv 5)) (blkOk_by (N := ["draws", "names", "ask", "things", "made", "rows", "found", "thing"]) (sc := defScope sInTurns) (by decide +kernel))
        (fun _ _ _ _ _ => (pg_name (i := 7) scInTurns.nd rfl (Or.inl rfl))) (fun _ _ _ _ _ => pts_nil) (fun _ _ _ _ _ => by exact (pe_callB (call_reprV quiet hu60) (by rfl) zrepr (by decide +kernel) (pa_cons (pe_callL (i := 2) (f := fA) (sp := spAsked C) (dvs := []) (E := E0) GA hr5 rfl (by first | exact .inr (.inr rfl) | exact .inr (.inl rfl)) kA9 bA .nil pass0 (pa_cons (pv 4) (pa_cons (pv 7) pa_nil))) pa_nil))))
      (pss_one (ps_ret (pe_cmpR (op_eqSL hu) (pv 6) (pe_lc (te := (tCB (rReprV K) (tCons (tCallL 2 fA (spAsked C) [] E0 (tCons (tCall (spQMade C) [] E0 (tCons (tVar 0) (tCons (tVar 1) tNil))) (tCons (tVar 7) tNil))) tNil))) (own := [("thing", 7)]) (g := (gName 7)) (tt := tYes) rfl scInTurns.nd (pi_list (pv 5)) (blkOk_by (N := ["draws", "names", "ask", "things", "made", "rows", "found", "thing"]) (sc := defScope sInTurns) (by decide +kernel))
          (fun _ _ _ _ _ => (pg_name (i := 7) scInTurns.nd rfl (Or.inl rfl))) (fun _ _ _ _ _ => pts_nil) (fun _ _ _ _ _ => by exact (pe_callB (call_reprV quiet hu60) (by rfl) zrepr (by decide +kernel) (pa_cons (pe_callL (i := 2) (f := fA) (sp := spAsked C) (dvs := []) (E := E0) GA hr5 rfl (by first | exact .inr (.inr rfl) | exact .inr (.inl rfl)) kA9 bA .nil pass0 (pa_cons (pe_call GM hr4 (by rfl) gM kM9 bM .nil pass0 (pa_cons (pv 0) (pa_cons (pv 1) pa_nil))) (pa_cons (pv 7) pa_nil))) pa_nil)))) (nomark _))))), ?_⟩
    have hlen : (zs.map V.str).length = zs.length := List.length_map _
    have hZ : ∀ z ∈ zs, z.length ≤ 1000 := fun z hz => pool_len z (hpool z hz)
    obtain ⟨osp, hosp, _⟩ := id hsp
    obtain ⟨k1, k2, rfl⟩ : ∃ k1 k2, ks = [k1, k2] := by
      match ks, hls with
      | [k1, k2], _ => exact ⟨_, _, rfl⟩
    refine ⟨_, rfl, _, rfl, a, n, zs, m, rfl, han, hsp, by omega, hn, hnd, fun z hz => pool_names z (hpool z hz), hZ, h2, by omega, fun p t H1 hp hpa hta sp1 b1 => ?_⟩
    have hl1 := b1 _ _ hla hl
    have hn1 := b1 _ _ (Ne.symm han) hn
    refine ⟨_, rfl, l, _, rfl, .inl (SqL.of hl1), fun l2 hl2 => ?_⟩
    generalize hE : upd H1 l2 _ = H2
    have sH2 : Same H1 H2 := hE ▸ same_upd hl2
    have el2 := congrFun hE.symm l2
    rw [upd_same] at el2
    clear hE
    refine ⟨_, rfl, l, _, rfl, .inl (SqL.of (sH2 _ _ hl1)), fun l3 hl3 => ?_⟩
    generalize hE : upd H2 l3 _ = H3
    have sH3 : Same H2 H3 := hE ▸ same_upd hl3
    have el3 := congrFun hE.symm l3
    rw [upd_same] at el3
    clear hE
    refine ⟨_, rfl, l3, _, rfl, SqL.of el3, fun S hS => ?_⟩
    have ec : cutV ([k1, k2].map V.int) none (some 1) = [V.int k1] := cut_to (k := 1)
    rw [ec]
    generalize hE : upd H3 S _ = H4
    have sH4 : Same H3 H4 := hE ▸ same_upd hS
    have eS := congrFun hE.symm S
    rw [upd_same] at eS
    clear hE
    refine ⟨l2, S, _, _, rfl, rfl, sH4 _ _ (sH3 _ _ el2), eS, by show 3 ≤ sizeLine; decide, fun R hR => ?_⟩
    generalize hE : upd H4 R _ = H5
    have sH5 : Same H4 H5 := hE ▸ same_upd hR
    have eR := congrFun hE.symm R
    rw [upd_same] at eR
    clear hE
    replace eR : H5 R = some (.lst ([k1, k2, k1].map V.int)) := eR
    refine st_nil ⟨by show 2 ≤ sizeLine; decide, fun T hT => ?_⟩
    generalize hE : upd H5 T _ = H6
    have sH6 : Same H5 H6 := hE ▸ same_upd hT
    have eT := congrFun hE.symm T
    rw [upd_same] at eT
    clear hE
    refine ⟨T, _, rfl, SqT.of eT, rfl, _, _, rfl, _, _, rfl, rfl, ?_⟩
    have s16 : Same H1 H6 := sH2.trans (sH3.trans (sH4.trans (sH5.trans sH6)))
    have eR6 := sH6 _ _ eR
    have hRa : R ≠ a := fun e => by
      obtain ⟨o', ho', _⟩ := sp1
      have := (sH2.trans (sH3.trans sH4)) _ _ ho'
      rw [← e, hR] at this; cases this
    have hks3 : ∀ k ∈ [k1, k2, k1], 1 ≤ k ∧ k ≤ 5 := fun k hk => hks k (by
      simp only [List.mem_cons, List.not_mem_nil, or_false] at hk ⊢
      rcases hk with h | h | h
      · exact .inl h
      · exact .inr h
      · exact .inl h)
    have hp6 : PathAt C H6 p t zs := hp.same s16
    have sp6 := sp1.same s16
    have hn6 := s16 _ _ hn1
    have gl : [k1, k2, k1].length = 3 := rfl
    generalize [k1, k2, k1] = rows at eR6 hks3 gl
    -- asked of one path
    refine ⟨_, rfl, R, rfl, ⟨_, SqL.of eR6⟩, fun D hD => ?_⟩
    have hDa : D ≠ a := fun e => by
      obtain ⟨o', ho', _⟩ := sp6
      rw [← e, hD] at ho'; cases ho'
    refine lc_it (walk_list (K := K) (a := R) (xs := rows.map V.int)) (fun j G => Same H6 G ∧ G D = some (.lst (((rows.map fun g => (askD zs.length g).shown).take j).map V.str))) ⟨same_upd hD, upd_same⟩ (fun j G _ p => SqL.of (p.1 _ _ eR6)) ?_ ?_
    · rintro j x G1 G2 hj ⟨sm, hacc⟩ ⟨rfl, hx⟩
      obtain ⟨gj, hgj, rfl⟩ := get_map hx
      obtain ⟨hg1, hg5⟩ := hks3 _ (List.mem_of_getElem? hgj)
      obtain ⟨t1, t2, t3⟩ := ask_text (n := zs.length) h5 (show 0 ≤ gj by omega) hg5
      refine ⟨rfl, tyes ?_⟩
      refine ⟨rfl, _, rfl, _, rfl, p, t, zs, gj, rfl, hp6.same sm, hnd, hpool, h2, h5, hg1, hg5, fun L G3 hL s3 => ?_⟩
      refine st_nil ⟨L, askD zs.length gj, rfl, .lst (SqL.of hL) dp_ints, t1, t2, t3, ?_⟩
      have hgt : (rows.map fun g => (askD zs.length g).shown)[j]? = some (askD zs.length gj).shown := by rw [List.getElem?_map, hgj]; rfl
      refine ⟨_, s3 _ _ hacc, ?_, fun b u hb => ?_, ?_⟩
      · rw [List.length_map, List.length_take, List.length_map, gl]
        exact Nat.lt_of_le_of_lt (Nat.min_le_right _ _) (by decide)
      · rw [upd_ne (ne_of_none hb hD)]
        exact s3 _ _ (sm _ _ hb)
      · rw [upd_same, take_more hgt, List.map_append]
        rfl
    rintro G7 ⟨s67, hacc⟩
    rw [List.length_map, gl, List.take_of_length_le (by rw [List.length_map, gl]; exact Nat.le_refl _)] at hacc
    have eR7 := s67 _ _ eR6
    -- asked of paths made anew
    have sp7 := sp6.same s67
    have b17 : But a H G7 := b1.trans (Same.but (s16.trans s67))
    have hn7 := s67 _ _ hn6
    refine ⟨_, rfl, _, rfl, R, rfl, ⟨_, SqL.of eR7⟩, fun D8 hD8 => ?_⟩
    have hD8a : D8 ≠ a := fun e => by
      obtain ⟨o', ho', _⟩ := sp7
      rw [← e, hD8] at ho'; cases ho'
    have h8 : ∀ {b : Addr} {o : HO}, G7 b = some o → b ≠ D8 := fun e => ne_of_none e hD8
    have keep7 : ∀ {b : Addr} {g : Str → Int} {i : Nat} {x : Addr}, True := trivial
    refine lc_it (walk_list (K := K) (a := R) (xs := rows.map V.int)) (fun j G => SpAt G a (m + 1 + j) ∧ (∀ b u, b ≠ a → G7 b = some u → G b = some u) ∧ G D8 = some (.lst (((rows.map fun g => (askD zs.length g).shown).take j).map V.str))) ⟨?_, ?_, upd_same⟩ (fun j G _ p => SqL.of (p.2.1 _ _ hRa eR7)) ?_ ?_
    · obtain ⟨o', ho', hok⟩ := sp7
      exact ⟨o', by rw [upd_ne (Ne.symm hD8a)]; exact ho', hok⟩
    · exact fun b u _ e => by rw [upd_ne (h8 e)]; exact e
    · rintro j x G1 G2 hj ⟨spj, bj, hacc8⟩ ⟨rfl, hx⟩
      rw [List.length_map, gl] at hj
      obtain ⟨gj, hgj, rfl⟩ := get_map hx
      obtain ⟨hg1, hg5⟩ := hks3 _ (List.mem_of_getElem? hgj)
      obtain ⟨t1, t2, t3⟩ := ask_text (n := zs.length) h5 (show 0 ≤ gj by omega) hg5
      refine ⟨rfl, tyes ?_⟩
      refine ⟨rfl, _, rfl, _, rfl, a, n, zs, _, rfl, han, spj, by omega, bj _ _ (Ne.symm han) hn7, hnd, fun z hz => pool_names z (hpool z hz), hZ, h2, by omega, fun p9 t9 G9 hp9 hp9a ht9a sp9 b9 => ?_⟩
      refine ⟨_, rfl, p9, t9, zs, gj, rfl, hp9, hnd, hpool, h2, h5, hg1, hg5, fun L G3 hL s3 => ?_⟩
      refine st_nil ⟨L, askD zs.length gj, rfl, .lst (SqL.of hL) dp_ints, t1, t2, t3, ?_⟩
      have hgt : (rows.map fun g => (askD zs.length g).shown)[j]? = some (askD zs.length gj).shown := by rw [List.getElem?_map, hgj]; rfl
      have b93 : But a G2 G3 := b9.trans (Same.but s3)
      refine ⟨_, b93 _ _ hD8a hacc8, ?_, ?_, fun b u hb hu => ?_, ?_⟩
      · rw [List.length_map, List.length_take, List.length_map, gl]
        exact Nat.lt_of_le_of_lt (Nat.min_le_right _ _) (by decide)
      · obtain ⟨o', ho', hok⟩ := sp9.same s3
        exact ⟨o', by rw [upd_ne (Ne.symm hD8a)]; exact ho', hok.mono (by omega)⟩
      · rw [upd_ne (h8 hu)]
        exact b93 _ _ hb (bj _ _ hb hu)
      · rw [upd_same, take_more hgt, List.map_append]
        rfl
    rintro G8 ⟨sp8, b8, hacc8⟩
    rw [List.length_map, gl] at sp8
    rw [List.length_map, gl, List.take_of_length_le (by rw [List.length_map, gl]; exact Nat.le_refl _)] at hacc8
    refine ⟨D, D8, rows.map fun g => (askD zs.length g).shown, rfl, rfl, b8 _ _ hDa hacc, hacc8, ?_⟩
    obtain ⟨o', ho', hok⟩ := sp8
    exact q G8 ⟨o', ho', hok.mono (by omega)⟩ fun b u hb hu => b8 _ _ hb (b17 _ _ hb hu)

end
end RK

/-! several except clauses, each with a name (the same one) -/
namespace L2
open PySem PySem.Spec PyProof.Rows
/-- what the clauses wish of an exception of the body, one after the other: slot i is the name's -/
def wManyAs (K : PySem.W.Frag) (len i : Nat) (Wout : WX) (D : Ends) : List (Value × (Addr → Value → Option Addr → TS)) → WX
  | [] => Wout
  | (c, ts) :: r => fun cls d σ H => ∃ b, PySem.W.exmOne K cls c = some b ∧ (b = true → σ.length = len → ∀ a, H a = none → ts a cls d { nx := fun σ' H' => D.nx (σ'.set i none) H', rt := D.rt, bk := fun σ' H' => D.bk (σ'.set i none) H', ct := fun σ' H' => D.ct (σ'.set i none) H' } (σ.set i (some (.ref a))) H) ∧ (b = false → wManyAs K len i Wout D r cls d σ H)
inductive HdsAs (X : Cx) (n : Str) : List ExceptHandler → List (Value × (Addr → Value → Option Addr → TS)) → Prop
  | nil : HdsAs X n [] []
  | cons {x : Str} {c : Value} {ts : Addr → Value → Option Addr → TS} {b₀ : Stmt} {suite : List Stmt} {np pos' : Pos} {hds : List ExceptHandler} {l : List (Value × (Addr → Value → Option Addr → TS))} (hc : Names X x c)
      (hsu : ∀ (a : Addr) (oe : Obj) (cls : Value) (d : Option Addr) (pn : List (Addr × Obj)), Zc cls d oe → (∃ vs, oe.data = .fields vs) → PSs (X.suite a ((a, oe) :: pn)) (b₀ :: suite) (ts a cls d)) (r : HdsAs X n hds l) :
      HdsAs X n (.ExceptHandler (some (.Name x np)) (some n) (b₀ :: suite) pos' :: hds) ((c, ts) :: l)
section
variable {X : Cx} {n : Str} {i : Nat} {body : List Stmt} {h₀ : ExceptHandler} {hds : List ExceptHandler} {l : List (Value × (Addr → Value → Option Addr → TS))} {pos : Pos} {tb : WX → TS} {Wout : WX}
theorem ps_try_manyAs (hs : X.stack = X.env :: X.outer) (hf : X.env.frame = some X.env.locals) (hN : X.N.Nodup) (hi : X.N[i]? = some n) (hln : X.env.kindOf n = some .local) (tk : Takes X Wout)
    (hb : ∀ (W : WX) (pn : List (Addr × Obj)) (xe : Value → Shared → Prop), Takes (X.tr pn xe) W → PassesOwn (model X.prog X.w) X.A X.env xe → PSs (X.tr pn xe) body (tb W))
    (hh : HdsAs X n (h₀ :: hds) l) : PS X (.Try body (h₀ :: hds) [] [] pos) (fun D σ H => tb (wManyAs X.K X.N.length i Wout D l) D σ H) := by
  refine ⟨fun pins s σ H D I h => ?_⟩
  have ok := I.ok
  have hfr : X.A.frames = some (X.env :: X.outer) := by rw [ok.frames, hs]
  have hloc : Loc X.env.scope n := .inl hln
  refine wpAny_Try_except ?_
  refine wpAny_mono ((hb (wManyAs X.K X.N.length i Wout D l) (X.pn ++ pins) (fun e s₁ => wpAny (model X.prog X.w) X.A (noteFrame e X.env) (fun _ s₂ => wpAny (model X.prog X.w) X.A (setFlight e none) (fun _ s₃ =>
    wpAny (model X.prog X.w) X.A (handleBy e X.env (h₀ :: hds)) (SP X pins D) X.xe s₃) X.xe s₂) X.xe s₁) (fun u s' xx => ?_) PassesOwn.looking).run [] s σ H D (I.toTry _) h) (fun f s1 hsp => ?_) (fun e s1 he => he)
  · -- the catch
    obtain ⟨a, B, sI, pins', σ', H', cls, d, rfl, J', nb, up, sky, na, os, ag, w⟩ := xx
    have J : Inv X pins σ' H' sI := J'.ofTry ok
    have sky' : Sky B (X.env :: X.outer) a (Zc cls d) X.env.locals s'.heap := by rw [← hs]; exact sky
    show wpAny (model X.prog X.w) X.A (noteFrame (.ref a) X.env) _ _ _
    refine Sky.land Zc.steady hfr hf sky' fun h3 fl3 up3 => ?_
    have J3 : Inv X pins σ' H' { s' with heap := h3 } := J.landed nb fl3.1 (up.trans up3) os ag
    obtain ⟨oe3, vs3, he3, hz3, hd3⟩ := fl3.there
    have notFr : ∀ {h : Heap} {o : Obj} {vs : Array Value}, h.FunFrames B (X.env :: X.outer) → h.get? a = some o → o.data = .fields vs → a ∉ frs (X.env :: X.outer) := fun {h o vs} ff e dd hm => by
      obtain ⟨_, o', e', hnf⟩ := ff.mem hm
      rw [e] at e'; cases e'
      exact hnf _ dd
    have nfr := notFr fl3.2.2.1 he3 hd3
    have nL : a ≠ X.env.locals := fun z => nfr (List.mem_filterMap.mpr ⟨X.env, List.mem_cons_self, by rw [hf, z]⟩)
    have nF : a ∉ X.fs := fun hm => by
      obtain ⟨e, he, q⟩ := List.mem_filterMap.mp hm
      exact nfr (List.mem_filterMap.mpr ⟨e, List.mem_cons_of_mem _ he, q⟩)
    have S3 := J3.suite he3 hd3 na nL nF
    have go : ∀ {hds' : List ExceptHandler} {l' : List (Value × (Addr → Value → Option Addr → TS))}, HdsAs X n hds' l' → wManyAs X.K X.N.length i Wout D l' cls d σ' H' →
        wpAny (model X.prog X.w) X.A (handleBy (.ref a) X.env hds') (SP X pins D) X.xe { s' with heap := h3 } := by
      intro hds' l' hk
      induction hk with
      | nil =>
        intro w
        refine wpAny_handleBy_nil ?_
        obtain ⟨k1, k2, k3, oe, vs, T, oT, ts', he, hz, hd, h1, hr⟩ := id fl3
        unfold PySem.passOn
        refine wpAny_bind (wpAny_field he hd h1 ?_)
        rw [if_neg (show ¬ ((Value.ref T == Value.none) = true) from by simp)]
        have fin : wpAny (model X.prog X.w) X.A (setFlight (.ref a) X.env.frame) (fun _ s4 => wpAny (model X.prog X.w) X.A (throw (.ref a) : Sem Flow) (SP X pins D) X.xe s4) X.xe { s' with heap := h3 } := by
          rw [hf]
          refine HandSPX.setFlight_upZ fl3 fun h4 hh4 up4 => wpAny_throw (tk _ _ ?_)
          exact ⟨a, B, sI, pins, σ', H', cls, d, rfl, J, nb, (up.trans up3).trans up4, .inr (.inr (by rw [hs]; exact hh4)), na, os, ag, w⟩
        first
          | exact wpAny_bind (wpAny_pure (wpAny_bind fin))
          | exact wpAny_bind fin
      | @cons x c ts b₀ suite np pos' hds2 l2 hc hsu r ih =>
        intro w
        obtain ⟨b, hb1, hyes, hno⟩ := w
        refine wpAny_handleBy_cons (codeAny_handlers_test ?_) (by intro q; cases q)
        have LT : PySem.W.Looks (model X.prog X.w) h3 (typeOf (.ref a)) cls := fun A Q E s k q => wpAny_typeOf_ref (k _ _ he3) (by rw [hz3.1]; exact q)
        have LM := PySem.W.exm_one (M := model X.prog X.w) (J3.kIn) LT hb1
        have test : ∀ {Q : Value → Shared → Prop} {E : Value → Shared → Prop}, Q c { s' with heap := h3 } → wpAny (model X.prog X.w) (X.A.mark (some (.ref a))) (eval (.Name x np) X.env) Q E { s' with heap := h3 } := fun {Q E} q => by
          obtain ⟨hg, hdbg, hm | ⟨hm, hv, hnn⟩⟩ := hc
          · exact ld_glob (X := X.suite a ((a, oe3) :: (X.pn ++ pins))) S3 hg hm q hdbg
          · exact ld_blt (X := X.suite a ((a, oe3) :: (X.pn ++ pins))) S3 hg hm hv q hnn hdbg
        refine test (LM.here ?_)
        cases b with
        | true =>
          refine codeAny_handlers_suite_as ?_
          refine HandSPX.lands_againZ fl3 fun h4 fl4 up4 => ?_
          have J4 : Inv X pins σ' H' { s' with heap := h4 } := J.landed nb fl4.1 ((up.trans up3).trans up4) os ag
          obtain ⟨oe4, vs4, he4, hz4, hd4⟩ := fl4.there
          have S4 := J4.suite he4 hd4 na nL nF
          refine store_ok (X := X.suite a ((a, oe4) :: (X.pn ++ pins))) (v := .ref a) S4 hN hi hloc rfl (fun s5 S5 => ?_) (.inr hln)
          refine wpAny_mono ((hsu a oe4 cls d (X.pn ++ pins) hz4 ⟨_, hd4⟩).run [] s5 _ H' _ S5 (hyes rfl J.len a na)) (fun f s6 hsp => ?_) (fun _ _ z => False.elim z)
          have end_ : ∀ {σ6 : St} {H6 : Hp} {Q : Shared → Prop}, Inv (X.suite a ((a, oe4) :: (X.pn ++ pins))) [] σ6 H6 s6 → (∀ s7, Inv X pins (σ6.set i none) H6 s7 → Q s7) →
              wpAny (model X.prog X.w) X.A (do bindName X.env n .none; unbindBehindTheSuite X.env n pos') (fun _ s7 => Q s7) X.xe s6 := fun {σ6 H6 Q} S6 hq => gone_ok (S6.unsuite ok) hN hi hln hq
          cases f with
          | next =>
            obtain ⟨σ6, H6, S6, q6⟩ := hsp
            exact end_ S6 fun s7 J7 => ⟨_, _, J7, q6⟩
          | brk =>
            obtain ⟨σ6, H6, S6, q6⟩ := hsp
            exact end_ S6 fun s7 J7 => ⟨_, _, J7, q6⟩
          | cont =>
            obtain ⟨σ6, H6, S6, q6⟩ := hsp
            exact end_ S6 fun s7 J7 => ⟨_, _, J7, q6⟩
          | ret u =>
            obtain ⟨v6, σ6, H6, S6, r6, q6⟩ := hsp
            exact end_ S6 fun s7 J7 => ⟨_, _, _, J7, r6, q6⟩
        | false =>
          show wpAny _ X.A (handleBy (.ref a) X.env hds2) _ _ _
          exact ih (hno rfl)
    exact go hh w
  · cases f with
    | next =>
      obtain ⟨σ', H', J', q⟩ := hsp
      exact wpAny_execs_nil ⟨σ', H', J'.ofTry ok, q⟩
    | brk =>
      obtain ⟨σ', H', J', q⟩ := hsp
      exact ⟨σ', H', J'.ofTry ok, q⟩
    | cont =>
      obtain ⟨σ', H', J', q⟩ := hsp
      exact ⟨σ', H', J'.ofTry ok, q⟩
    | ret u =>
      obtain ⟨v, σ', H', J', r, q⟩ := hsp
      exact ⟨v, σ', H', J'.ofTry ok, r, q⟩
end
end L2

namespace RK
open PySem L2 LamX
/-! ### what is told, or how it is refused -/
/-- the error at d says v of its field: the pair of the word and v is told -/
def Says (C : Addr) (f : Str) (z : Str) (Q : VK) (cls : Value) (d : Option Addr) (H : Hp) : Prop := cls = .ref C ∧ ∃ d' v, d = some d' ∧ H d' = some (.xd [(f, v)]) ∧ ∀ p, H p = none → Q (.ref p) (upd H p (.lst [.str z, v]))
/-- what an exception of the asked one must answer -/
def metW (K : PySem.W.Frag) (CP CO CN : Addr) (Q : VK) : XK := fun cls d H' => ∃ b, PySem.W.exmOne K cls (.ref CP) = some b ∧ (b = true → Says CP "thing" "path" Q cls d H') ∧ (b = false → ∃ b, PySem.W.exmOne K cls (.ref CO) = some b ∧ (b = true → Says CO "most" "most" Q cls d H') ∧ (b = false → ∃ b, PySem.W.exmOne K cls (.ref CN) = some b ∧ (b = true → Says CN "number" "number" Q cls d H') ∧ (b = false → False)))
def TTmet (K : PySem.W.Frag) (CP CO CN : Addr) : (XK → Hp → VK → Prop) → Hp → VK → Prop := fun tl H Q =>
  tl (metW K CP CO CN Q) H fun v H' => 2 ≤ sizeLine ∧ ∀ p, H' p = none → Q (.ref p) (upd H' p (.lst [.str "told", v]))
theorem scMet : FnScope ["ask", "e"] ["ask"] (defScope sMet) := ⟨rfl, rfl, rfl, by decide +kernel, rfl, by decide +kernel, by decide +kernel⟩
theorem xfc_at {P : Program} {K : PySem.W.Frag} {mg : Str → Option Value} {nm fld : Str} {C f : Addr} (T : ErrAt P K mg nm fld C f) : XfC K C := ⟨T.x.ga, T.x.gg, T.x.exC, T.x.hdC⟩
section
variable {X : Cx} {CP fP CO fO CN fN : Addr}
theorem met_gives {g : Addr} {cdg : Value} {q : Str} (TP : ErrAt X.prog X.K X.mg "BadPath" "thing" CP fP) (TO : ErrAt X.prog X.K X.mg "BadMost" "most" CO fO) (TN : ErrAt X.prog X.K X.mg "BadNumber" "number" CN fN) :
    GivesTo X ["ask", "e"] "_law_met" (defScope sMet) g cdg (defBody sMet) "ask" q (TTmet X.K CP CO CN) := by
  intro f c' s H Q tl act hc h
  refine ⟨_, pss_one (ps_try_manyAs (X := (cxOf C8.CX0 X.prog X.w X.K X.mg X.base ["ask", "e"] "_law_met" (defScope sMet) g cdg X.A X.stack s H C8.E0).nox) (i := 1) (n := "e")
      (tb := fun W D σ H => ∃ Ech : XK, (∀ cls d σ' H', Ech cls d H' → W cls d σ' H') ∧ σ[0]? = some (some (.ref f)) ∧ H c' = some (CodeO c' q) ∧ tl Ech H (fun v H' => 2 ≤ sizeLine ∧ ∀ p, H' p = none → D.rt (.ref p) (upd H' p (.lst [.str "told", v]))))
      (l := [(.ref CP, fun a cls d => tRet (tLst (tCons (tC (.str "path")) (tCons (tXf a cls d CP "thing" (tVar 1)) tNil)))), (.ref CO, fun a cls d => tRet (tLst (tCons (tC (.str "most")) (tCons (tXf a cls d CO "most" (tVar 1)) tNil)))), (.ref CN, fun a cls d => tRet (tLst (tCons (tC (.str "number")) (tCons (tXf a cls d CN "number" (tVar 1)) tNil))))])
      rfl rfl scMet.nd rfl rfl L2.takes0 (fun W pn xe tk _ => ?_)
      (.cons ⟨rfl, by decide, Or.inl TP.g⟩ (fun a oe cls d pn hz hf => pss_one (ps_ret (by exact (pe_lst (pa_cons pe_str (pa_cons (by exact (pe_xf (xfc_at TP) TP.x.noN hz hf (pv 1))) pa_nil)))))) (.cons ⟨rfl, by decide, Or.inl TO.g⟩ (fun a oe cls d pn hz hf => pss_one (ps_ret (by exact (pe_lst (pa_cons pe_str (pa_cons (by exact (pe_xf (xfc_at TO) TO.x.noN hz hf (pv 1))) pa_nil)))))) (.cons ⟨rfl, by decide, Or.inl TN.g⟩ (fun a oe cls d pn hz hf => pss_one (ps_ret (by exact (pe_lst (pa_cons pe_str (pa_cons (by exact (pe_xf (xfc_at TN) TN.x.noN hz hf (pv 1))) pa_nil)))))) .nil)))), ?_⟩
  · refine ⟨fun pins s' σ H' D I h' => ?_⟩
    obtain ⟨Ech, hW, h1, h2, h3⟩ := h'
    exact (pss_one (ps_ret (pe_lst (pa_cons pe_str (pa_cons (act W pn xe Ech _ _ tk hW) pa_nil))))).run pins s' σ H' D I ⟨h1, h2, h3⟩
  · have say : ∀ {a : Addr} {cls : Value} {d : Option Addr} {C : Addr} {fld z : Str} {H' : Hp} {σ' : St} {D : Ends}, (∀ v H', Q v H' → D.rt v H') → Says C fld z Q cls d H' → σ'.length = 2 →
        tRet (tLst (tCons (tC (.str z)) (tCons (tXf a cls d C fld (tVar 1)) tNil))) D (σ'.set 1 (some (.ref a))) H' := by
      rintro a cls d C fld z H' σ' D hQ ⟨hc, d', v, hd, hH, q⟩ hl
      refine ⟨_, by rw [List.getElem?_set_self (by omega)], rfl, hc, d', _, v, hd, hH, by simp [List.lookup], by show 2 ≤ sizeLine; decide, fun p hp => hQ _ _ (q p hp)⟩
    refine ⟨_, fun cls d σ' H' ⟨b, e1, e2, e3⟩ => ⟨b, e1, fun hb hl a na => say (fun _ _ q => q) (e2 hb) hl, fun hb => ?_⟩, rfl, hc, h⟩
    obtain ⟨b, e1, e2, e3⟩ := e3 hb
    refine ⟨b, e1, fun hb hl a na => say (fun _ _ q => q) (e2 hb) hl, fun hb => ?_⟩
    obtain ⟨b, e1, e2, e3⟩ := e3 hb
    exact ⟨b, e1, fun hb hl a na => say (fun _ _ q => q) (e2 hb) hl, fun hb => e3 hb⟩
end
/-! ### asked, refused -/
def qLam : Str := "_law_refused_right.<locals>.<lambda>"
section
variable {X : Cx} {CP fP CO fO CN fN fM c Pt : Addr} {fdM : FuncData} {k : Nat} {T : List (Addr × Str)} {params : Arguments} {body : Expr} {scope : Scope} {t : XK → TE} {p lpos pos : Pos}
theorem pe_met (FM : Fun X.K "_law_met" "_law_met" sMet fM fdM) (bM : Binds X.K fdM ["ask"] []) (gM : X.mg "_law_met" = some (.ref fM)) (kM : PySem.W.keepIn X.K (.ref fM) = true)
    (TP : ErrAt X.prog X.K X.mg "BadPath" "thing" CP fP) (TO : ErrAt X.prog X.K X.mg "BadMost" "most" CO fO) (TN : ErrAt X.prog X.K X.mg "BadNumber" "number" CN fN) (hg : Gl X "_law_met")
    (TB : TabB X.base X.mg c Pt) (hcode : X.env.code = .ref c) (hmT : (Pt, X.env.qual ++ "<lambda>") ∈ T) (hu : ∀ p ∈ T, p.1 = Pt → p.2 = X.env.qual ++ "<lambda>") (hr : Room (k + 2) X.A) (L : LamS X.env.scope scope) (hdef : defaultsOf params X.env = ([], []))
    (hbind : ∀ (q : Str) (cl : List (Str × Addr)) (pm cv ctv : Value), bindArgs (PySem.W.kla_fn "<lambda>" q params body scope cl pm cv ctv) ⟨[], []⟩ = pure [])
    (hbody : ∀ (A : Around) (outer : List Env) (s : Shared) (H : Hp) (E : XK) (f c' : Addr), Room k (A.deeper (lamEnv X scope s.heap.objs.size f c')) → PE (lamCx X A outer s H E scope f c') body (t E)) :
    PE X (.Call (.Name "_law_met" p) [.Lambda params body scope lpos] [] pos) (tLam T (TTmet X.K CP CO CN) t) := by
  obtain ⟨oc, od, kV, doc, pm, an, cdv, ct, osl, rfl, lk, hcd⟩ := FM.ex
  exact pe_lamcall hg gM kM lk hcd bM scMet rfl (.inl rfl) (met_gives TP TO TN) TB hcode hmT hu hr L hdef hbind hbody
end
theorem code_ne_lst {c : Addr} {q : Str} (xs : List V) : CodeO c q ≠ .lst xs := fun z => by
  unfold CodeO at z
  cases z
theorem code_ne_dK {c : Addr} {q : Str} (xs : List (Key × V)) : CodeO c q ≠ .dK xs := fun z => by
  unfold CodeO at z
  cases z
theorem tabs_keep {T : List (Addr × Str)} {H H' : Hp} (t : Tabs T H) (s : ∀ b o, (∀ xs, o ≠ .lst xs) → (∀ kvs, o ≠ .dK kvs) → H b = some o → H' b = some o) : Tabs T H' := fun p hp => by
  obtain ⟨ps, h1, h2, h3⟩ := t p hp
  refine ⟨ps, s _ _ (fun _ z => nomatch z) (fun _ z => nomatch z) h1, h2, fun pos cv hc => ?_⟩
  obtain ⟨c, e1, e2⟩ := h3 pos cv hc
  exact ⟨c, e1, s _ _ code_ne_lst code_ne_dK e2⟩
theorem one_met {K : PySem.W.Frag} {CP CO CN Cx : Addr} {T : List (Addr × Str)} {σ : St} {H : Hp} {R : VK} {te1 : XK → TE} {fld word : Str} {v : V} (hT : Tabs T H)
    (hw : ∀ Q d H', Says Cx fld word Q (.ref Cx) d H' → metW K CP CO CN Q (.ref Cx) d H')
    (h1 : ∀ (G : Hp) (Q' : VK) (E' : XK), ExtN H G → (∀ d H', Same G H' → H' d = some (.xd [(fld, v)]) → E' (.ref Cx) (some d) H') → te1 E' σ G Q')
    (fin : ∀ q G, ExtN H G → Tabs T G → G q = some (.lst [.str word, v]) → R (.ref q) G) : tLam T (TTmet K CP CO CN) te1 σ H R := by
  refine ⟨hT, fun G1 en1 tb1 => h1 G1 _ _ en1 fun d H2 s2 e2 => hw _ _ _ ⟨rfl, d, v, rfl, e2, fun q hq => ?_⟩⟩
  have sq := same_upd (o := .lst [V.str word, v]) hq
  have eq : (upd H2 q (.lst [V.str word, v])) q = some (.lst [V.str word, v]) := upd_same
  generalize upd H2 q (.lst [V.str word, v]) = H3 at sq eq
  exact fin q H3 ((en1.trans (ExtN.of s2)).trans (ExtN.of sq)) ((tb1.ext s2).ext sq) eq
theorem same_pair {G : Hp} {q t : Addr} {word : Str} {v : V} {k : Nat} (hq : G q = some (.lst [.str word, v])) (ht : G t = some (.lst [.str word, v])) (hw : word.length ≤ 1000) (h : SameD G k v v) : SameD G (k + 1) (.ref q) (.ref t) := by
  refine .lst hq ht rfl (by show 2 ≤ 1000; decide) fun j x y e1 e2 => ?_
  match j, e1, e2 with
  | 0, rfl, rfl => exact .str hw
  | 1, rfl, rfl => exact h
theorem SameD.extN {H H' : Hp} (s : ExtN H H') {n : Nat} {x y : V} (h : SameD H n x y) : SameD H' n x y := by
  induction h with
  | non => exact .non
  | int i => exact .int i
  | bl b => exact .bl b
  | str h => exact .str h
  | lst ha hb hl h1 h ih => exact .lst (s _ _ ha (fun _ z => nomatch z)) (s _ _ hb (fun _ z => nomatch z)) hl h1 ih
  | tup ha hb hl h1 h ih => exact .tup (s _ _ ha (fun _ z => nomatch z)) (s _ _ hb (fun _ z => nomatch z)) hl h1 ih
  | dict ha hb hl h1 hk h ih => exact .dict (s _ _ ha (fun _ z => nomatch z)) (s _ _ hb (fun _ z => nomatch z)) hl h1 hk ih
theorem Th.extN {K : PySem.W.Frag} {H H' : Hp} (s : ExtN H H') {v : V} {k : Kd} (h : Th K H v k) : Th K H' v k := by
  cases h with
  | non => exact .non
  | int i => exact .int i
  | bl b => exact .bl b
  | str h => exact .str h
  | lst e => exact .lst (s _ _ e (fun _ z => nomatch z))
  | tup e => exact .tup (s _ _ e (fun _ z => nomatch z))
  | dict e => exact .dict (s _ _ e (fun _ z => nomatch z))
  | fn e c => exact .fn e c
theorem BadV.extN {K : PySem.W.Frag} {Pd : List (Key × V) → Prop} {H H' : Hp} {v : V} (h : BadV K Pd H v) (s : ExtN H H') : BadV K Pd H' v := by
  obtain ⟨k, h1, h2, h3⟩ := h
  refine ⟨k, h1.extN s, h2.extN s, fun hk => ?_⟩
  obtain ⟨dd, kvs, e1, e2, e3, e4⟩ := h3 hk
  exact ⟨dd, kvs, e1, s _ _ e2 (fun _ z => nomatch z), fun kv hm => let ⟨kx, e⟩ := e3 kv hm; ⟨kx, e.extN s⟩, e4⟩
theorem st_seq {t u : TS} {D : Ends} {σ : St} {H : Hp} (h : t { D with nx := u D } σ H) : tSeq t u D σ H := h
theorem st_asg {te : TE} {g : TG} {D : Ends} {σ : St} {H : Hp} (h : te σ H fun x H1 => g x σ H1 D.nx) : tAsg te g D σ H := h
end RK

namespace RK
open PySem L2 LamX
/-! ### two asked, refused -/
theorem two_met {K : PySem.W.Frag} {CP CO CN Cx Cy : Addr} {T : List (Addr × Str)} {σ : St} {H : Hp} {R : Ends} {te1 te2 : XK → TE} {rest : TS} {fld word fld2 word2 : Str} {v v2 : V} {i : Nat} (hT : Tabs T H) (hl : i < σ.length)
    (hw : ∀ Q d H', Says Cx fld word Q (.ref Cx) d H' → metW K CP CO CN Q (.ref Cx) d H') (hw2 : ∀ Q d H', Says Cy fld2 word2 Q (.ref Cy) d H' → metW K CP CO CN Q (.ref Cy) d H')
    (h1 : ∀ (G : Hp) (Q' : VK) (E' : XK), ExtN H G → (∀ d H', Same G H' → H' d = some (.xd [(fld, v)]) → E' (.ref Cx) (some d) H') → te1 E' σ G Q')
    (h2 : ∀ (D : Addr) (G : Hp) (Q' : VK) (E' : XK), ExtN H G → (∀ d H', Same G H' → H' d = some (.xd [(fld2, v2)]) → E' (.ref Cy) (some d) H') → te2 E' (σ.set i (some (.ref D))) G Q')
    (fin : ∀ D p1 p2 G, ExtN H G → Tabs T G → G D = some (.lst [.ref p1, .ref p2]) → G p1 = some (.lst [.str word, v]) → G p2 = some (.lst [.str word2, v2]) → rest R (σ.set i (some (.ref D))) G) :
    tSeq (tAsg (tLst (tCons (tLam T (TTmet K CP CO CN) te1) tNil)) (gName i)) (tSeq (tDrop (tBM K "list" rAppend (tVar i) (tCons (tLam T (TTmet K CP CO CN) te2) tNil))) rest) R σ H := by
  refine ⟨hT, fun G1 en1 tb1 => h1 G1 _ _ en1 fun d H2 s2 e2 => hw _ _ _ ⟨rfl, d, v, rfl, e2, fun q hq => ?_⟩⟩
  have sq := same_upd (o := .lst [V.str word, v]) hq
  have eq : (upd H2 q (.lst [V.str word, v])) q = some (.lst [V.str word, v]) := upd_same
  generalize upd H2 q (.lst [V.str word, v]) = H3 at sq eq
  have en3 : ExtN H H3 := (en1.trans (ExtN.of s2)).trans (ExtN.of sq)
  have tb3 : Tabs T H3 := (tb1.ext s2).ext sq
  refine ⟨by show 1 ≤ sizeLine; decide, fun D hD => ?_⟩
  generalize hE : upd H3 D _ = H4
  have s4 : Same H3 H4 := hE ▸ same_upd hD
  have e4 := congrFun hE.symm D
  rw [upd_same] at e4
  clear hE
  have en4 : ExtN H H4 := en3.trans (ExtN.of s4)
  have tb4 := tb3.ext s4
  have hqD : q ≠ D := ne_of_none eq hD
  have hD0 : ∀ o, H D = some o → ∃ ps, o = .tbl ps := fun o ho => by
    cases o with
    | tbl ps => exact ⟨ps, rfl⟩
    | _ => exact absurd (en3 _ _ ho (by intro _ z; cases z)) (by rw [hD]; intro z; cases z)
  refine ⟨.ref D, ?_, .inl ⟨rfl, _, SqL.of e4⟩, tb4, fun G5 en5 tb5 => h2 D G5 _ _ (en4.trans en5) fun d H6 s6 e6 => hw2 _ _ _ ⟨rfl, d, v2, rfl, e6, fun p2 hp2 => ?_⟩⟩
  · show (σ.set i (some (.ref D)))[i]? = _
    rw [List.getElem?_set_self hl]
  have s7 := same_upd (o := .lst [V.str word2, v2]) hp2
  have e7 : (upd H6 p2 (.lst [V.str word2, v2])) p2 = some (.lst [V.str word2, v2]) := upd_same
  generalize upd H6 p2 (.lst [V.str word2, v2]) = H7 at s7 e7
  have s57 : Same G5 H7 := s6.trans s7
  have eD : H7 D = some (.lst [.ref q]) := s57 _ _ (en5 _ _ e4 (fun _ z => nomatch z))
  have eq7 : H7 q = some (.lst [.str word, v]) := s57 _ _ (en5 _ _ (s4 _ _ eq) (fun _ z => nomatch z))
  have en7 : ExtN H H7 := (en4.trans en5).trans (ExtN.of s57)
  have tb7 : Tabs T H7 := tb5.ext s57
  have hp2D : p2 ≠ D := fun z => by rw [z, eD] at e7; cases e7
  refine ⟨D, _, _, rfl, rfl, eD, by show 1 < sizeLine; decide, ?_⟩
  refine fin D q p2 _ (fun b o h n => ?_) ?_ upd_same (by rw [upd_ne hqD]; exact eq7) (by rw [upd_ne hp2D]; exact e7)
  · by_cases hb : b = D
    · obtain ⟨ps, rfl⟩ := hD0 o (hb ▸ h)
      exact absurd rfl (n ps)
    · rw [upd_ne hb]
      exact en7 _ _ h n
  · refine tabs_keep tb7 fun b o n1 _ h => ?_
    by_cases hb : b = D
    · rw [hb, eD] at h
      cases h
      exact absurd rfl (n1 _)
    · rw [upd_ne hb]; exact h
theorem same_rep {G : Hp} {D q t : Addr} {word : Str} {v : V} {n k : Nat} {ps : List Addr} (hD : G D = some (.lst (ps.map V.ref))) (hps : ∀ r ∈ ps, G r = some (.lst [.str word, v])) (hl : ps.length = n) (hn : n ≤ 1000) (hq : G q = some (.lst (List.replicate n (V.ref t)))) (ht : G t = some (.lst [.str word, v])) (hw : word.length ≤ 1000) (h : SameD G k v v) : SameD G (k + 2) (.ref D) (.ref q) := by
  refine .lst hD hq (by rw [List.length_map, List.length_replicate, hl]) (by rw [List.length_map, hl]; exact hn) fun i x y e1 e2 => ?_
  obtain ⟨r, e3, rfl⟩ := get_map e1
  have e4 := List.mem_of_getElem? e2
  rw [(List.mem_replicate.mp e4).2]
  refine .lst (hps r (List.mem_of_getElem? e3)) ht rfl (by show 2 ≤ 1000; decide) fun j x y e1 e2 => ?_
  match j, e1, e2 with
  | 0, rfl, rfl => exact .str hw
  | 1, rfl, rfl => exact h
theorem ExtN.same {H H1 H2 : Hp} (a : ExtN H H1) (s : Same H1 H2) : ExtN H H2 := fun b o h n => s _ _ (a b o h n)
section
variable {K : PySem.W.Frag} {C CP CO CN p t : Addr} {zs : List Str} {G : Hp} {v x y : V} {k : Kd} {Q : VK} {E : XK}
theorem path_bad1 (h : Th K G v k) (hE : Bad "thing" CP v G E) : spCountNotes K C CP CO [v, x] G Q E := ⟨_, _, rfl, .inl ⟨k, h, hE⟩⟩
theorem path_bad2 (h : Th K G v k) (hE : Bad "thing" CP v G E) : spCountNoted K C CP CO CN [v, x, y] G Q E := ⟨_, _, _, rfl, .inl ⟨k, h, hE⟩⟩
theorem most_bad {next : Int → Prop} (h : Th K G v k) (hf : timesB v = false) (hE : Bad "most" CO v G E) : MostT K CO v G E next := ⟨k, h, fun _ => hE, fun e => absurd (hf.symm.trans e) Bool.false_ne_true⟩
theorem num_bad {next : Int → Prop} (h : Th K G v k) (hf : numB v = false) (hE : Bad "number" CN v G E) : NumT K CN v G E next := ⟨k, h, fun _ => hE, fun e => absurd (hf.symm.trans e) Bool.false_ne_true⟩
theorem most_bad1 (hp : PathAt C G p t zs) (nd : zs.Nodup) (hpool : ∀ z ∈ zs, z ∈ pool) (h2 : 2 ≤ zs.length) (hl : zs.length ≤ 20) (h : Th K G v k) (hf : timesB v = false) (hE : Bad "most" CO v G E) : spCountNotes K C CP CO [.ref p, v] G Q E :=
  ⟨_, _, rfl, path_t hp nd hpool h2 hl (most_bad h hf hE)⟩
theorem most_bad2 (hp : PathAt C G p t zs) (nd : zs.Nodup) (hpool : ∀ z ∈ zs, z ∈ pool) (h2 : 2 ≤ zs.length) (hl : zs.length ≤ 20) (h : Th K G v k) (hf : timesB v = false) (hE : Bad "most" CO v G E) : spCountNoted K C CP CO CN [.ref p, v, y] G Q E :=
  ⟨_, _, _, rfl, path_t hp nd hpool h2 hl (most_bad h hf hE)⟩
theorem num_bad1 {i : Int} (hp : PathAt C G p t zs) (nd : zs.Nodup) (hpool : ∀ z ∈ zs, z ∈ pool) (h2 : 2 ≤ zs.length) (hl : zs.length ≤ 20) (hi : 1 ≤ i) (h : Th K G v k) (hf : numB v = false) (hE : Bad "number" CN v G E) : spCountNoted K C CP CO CN [.ref p, .int i, v] G Q E :=
  ⟨_, _, _, rfl, path_t hp nd hpool h2 hl (most_t hi (num_bad h hf hE))⟩
end
end RK

namespace RK
open PySem L2 LamX
/-! ### what is none is refused -/
theorem nt_l {xs : List V} (ps : Array Value) : HO.lst xs ≠ .tbl ps := fun z => nomatch z
theorem nt_d {xs : List (Key × V)} (ps : Array Value) : HO.dK xs ≠ .tbl ps := fun z => nomatch z
theorem nt_t {xs : List V} (ps : Array Value) : HO.tup xs ≠ .tbl ps := fun z => nomatch z
theorem nt_i {c d : Addr} {fs : List (Str × V)} (ps : Array Value) : HO.ins c d fs ≠ .tbl ps := fun z => nomatch z
def spRefused (C : Addr) (TT : List (Addr × Str)) : Sp := fun vs H Q _ => ∃ (p t : Addr) (zs : List Str), vs = [.ref p] ∧ PathAt C H p t zs ∧ zs.Nodup ∧ (∀ z ∈ zs, z ∈ pool) ∧ 2 ≤ zs.length ∧ zs.length ≤ 20 ∧ Tabs TT H ∧
  ∀ H', ExtN H H' → Tabs TT H' → Q (.bl true) H'
section
variable {P : Program} {w : World} {K : PySem.W.Frag} {mg : Str → Option Value} {base : Heap} {C CP fP CO fO CN fN fM c Pt : Addr} {fdM : FuncData} {TT : List (Addr × Str)}
theorem scRefused : FnScope ["path", "odd", "found", "held"] ["path"] (defScope sRefused) := ⟨rfl, rfl, rfl, by decide +kernel, rfl, by decide +kernel, by decide +kernel⟩
theorem ok_refused {f fA fD fQ : Addr} {fdA fdD fdQ : FuncData} {oc kVv doc pm ct : Value} {od an : Option Addr} {osl : Array (Option Value)}
    (lk : K.lookup f = some ⟨oc, od, .func (PySem.W.fnOf "_law_refused_right" "_law_refused_right" (defArgs sRefused) (defBody sRefused) (defScope sRefused) .none kVv doc pm an (.ref c) ct), osl⟩) (hcd : PySem.W.codeIn K (.ref c) "_law_refused_right" = true)
    (B : B0 K mg) (TB : TabB base mg c Pt) (hmT : (Pt, qLam) ∈ TT) (huT : ∀ p ∈ TT, p.1 = Pt → p.2 = qLam) (TP : ErrAt P K mg "BadPath" "thing" CP fP) (TO : ErrAt P K mg "BadMost" "most" CO fO) (TN : ErrAt P K mg "BadNumber" "number" CN fN)
    (x1 : PySem.W.exmOne K (.ref CO) (.ref CP) = some false) (x2 : PySem.W.exmOne K (.ref CN) (.ref CP) = some false) (x3 : PySem.W.exmOne K (.ref CN) (.ref CO) = some false)
    (FM : Fun K "_law_met" "_law_met" sMet fM fdM) (bM : Binds K fdM ["ask"] []) (gM : mg "_law_met" = some (.ref fM)) (kM : PySem.W.keepIn K (.ref fM) = true)
    (GA : FnOk P w K mg base (L2.CX P w) 4 fA fdA ["path", "most"] (spCountNotes K C CP CO)) (bA : Binds K fdA ["path", "most"] []) (gA : mg "count_notes" = some (.ref fA)) (kA9 : PySem.W.keepIn K (.ref fA) = true)
    (GD : FnOk P w K mg base (L2.CX P w) 4 fD fdD ["path", "most", "number"] (spCountNoted K C CP CO CN)) (bD : Binds K fdD ["path", "most", "number"] []) (gD : mg "count_noted" = some (.ref fD)) (kD9 : PySem.W.keepIn K (.ref fD) = true)
    (GQ : FnOk P w K mg base CX0 9 fQ fdQ ["found", "due"] (spSame 8)) (bQ : Binds K fdQ ["found", "due"] []) (gQ : mg "_law_same" = some (.ref fQ)) (kQ9 : PySem.W.keepIn K (.ref fQ) = true) :
    FnOk P w K mg base CX0 10 f (PySem.W.fnOf "_law_refused_right" "_law_refused_right" (defArgs sRefused) (defBody sRefused) (defScope sRefused) .none kVv doc pm an (.ref c) ct) ["path"] (spRefused C TT) := by
  refine fn_of lk hcd scRefused (fun vs H Q E h => ?_) (fun A outer s H vs Q E hr h => ?_)
  · obtain ⟨p, t, zs, rfl, _⟩ := h
    rfl
  · obtain ⟨p, t, zs, rfl, hp, hnd, hpool, h2, h20, hT, q⟩ := h
    have hu := hu_of hr
    have hr9 : Room 9 _ := hr.mono (by decide)
    have hr6 : Room (4 + 2) _ := hr.mono (by decide)
    refine ⟨_, PSs.nox (pss_cons (ps_for PassesOwn.never rfl (pi_tup (pe_tup (pa_cons pe_non (pa_cons pe_int (pa_cons pe_str (pa_cons (pe_lst pa_nil) (pa_cons pe_dnewK (pa_cons pe_bl pa_nil)))))))) (pg_name (i := 1) scRefused.nd rfl (Or.inr rfl))
        (pss_cons (ps_set (i := 2) scRefused.nd rfl (Or.inl rfl) (pe_lst (pa_cons (by exact (pe_met (T := TT) (t := fun E => tCall (spCountNotes K C CP CO) [] E (tCons (tVar 1) (tCons (L2.tC .non) tNil))) FM bM gM kM TP TO TN (by rfl) TB rfl hmT huT hr6 (lamS_by (sc := defScope sRefused) (by decide +kernel)) (by rfl) (fun _ _ _ _ _ => by rfl) (fun A outer s H E f c' hr2 => by exact (pe_call GA hr2 (by rfl) gA kA9 bA .nil (passes_call (takes_of rfl rfl rfl rfl) fun _ _ _ _ h => h) (pa_cons (pv 1) (pa_cons pe_non pa_nil)))))) pa_nil)))
      (pss_cons (ps_expr (pe_bm PySem.F.plainAttrs_list PySem.F.slot_list_append PySem.F.type_list_append mt_append (pv 2) (pa_cons (by exact (pe_met (T := TT) FM bM gM kM TP TO TN (by rfl) TB rfl hmT huT hr6 (lamS_by (sc := defScope sRefused) (by decide +kernel)) (by rfl) (fun _ _ _ _ _ => by rfl) (fun A outer s H E f c' hr2 => by exact (pe_call GD hr2 (by rfl) gD kD9 bD .nil (passes_call (takes_of rfl rfl rfl rfl) fun _ _ _ _ h => h) (pa_cons (pv 1) (pa_cons pe_int (pa_cons (pe_un un_neg pe_int) pa_nil))))))) pa_nil)))
      (pss_one (ps_if (pt_not (pt_val (pe_call GQ hr9 (by rfl) gQ kQ9 bQ .nil pass0 (pa_cons (pv 2) (pa_cons (pe_op op_rep (pe_lst (pa_cons (pe_lst (pa_cons pe_str (pa_cons (pv 1) pa_nil))) pa_nil)) pe_int) pa_nil))))) (pss_one (ps_ret pe_bl)) (pss_nil))))))
      (pss_cons (ps_for PassesOwn.never rfl (pi_tup (pe_tup (pa_cons pe_non (pa_cons pe_int (pa_cons (pe_un un_neg pe_int) (pa_cons pe_bl (pa_cons pe_str (pa_cons (pe_lst (pa_cons pe_int pa_nil)) (pa_cons pe_dnewK pa_nil))))))))) (pg_name (i := 1) scRefused.nd rfl (Or.inr rfl))
        (pss_cons (ps_set (i := 2) scRefused.nd rfl (Or.inl rfl) (pe_lst (pa_cons (by exact (pe_met (T := TT) (t := fun E => tCall (spCountNotes K C CP CO) [] E (tCons (tVar 0) (tCons (tVar 1) tNil))) FM bM gM kM TP TO TN (by rfl) TB rfl hmT huT hr6 (lamS_by (sc := defScope sRefused) (by decide +kernel)) (by rfl) (fun _ _ _ _ _ => by rfl) (fun A outer s H E f c' hr2 => by exact (pe_call GA hr2 (by rfl) gA kA9 bA .nil (passes_call (takes_of rfl rfl rfl rfl) fun _ _ _ _ h => h) (pa_cons (pv 0) (pa_cons (pv 1) pa_nil)))))) pa_nil)))
      (pss_cons (ps_expr (pe_bm PySem.F.plainAttrs_list PySem.F.slot_list_append PySem.F.type_list_append mt_append (pv 2) (pa_cons (by exact (pe_met (T := TT) (t := fun E => tCall (spCountNoted K C CP CO CN) [] E (tCons (tVar 0) (tCons (tVar 1) (tCons (L2.tC .non) tNil)))) FM bM gM kM TP TO TN (by rfl) TB rfl hmT huT hr6 (lamS_by (sc := defScope sRefused) (by decide +kernel)) (by rfl) (fun _ _ _ _ _ => by rfl) (fun A outer s H E f c' hr2 => by exact (pe_call GD hr2 (by rfl) gD kD9 bD .nil (passes_call (takes_of rfl rfl rfl rfl) fun _ _ _ _ h => h) (pa_cons (pv 0) (pa_cons (pv 1) (pa_cons pe_non pa_nil))))))) pa_nil)))
      (pss_one (ps_if (pt_not (pt_val (pe_call GQ hr9 (by rfl) gQ kQ9 bQ .nil pass0 (pa_cons (pv 2) (pa_cons (pe_op op_rep (pe_lst (pa_cons (pe_lst (pa_cons pe_str (pa_cons (pv 1) pa_nil))) pa_nil)) pe_int) pa_nil))))) (pss_one (ps_ret pe_bl)) (pss_nil))))))
      (pss_cons (ps_for PassesOwn.never rfl (pi_tup (pe_tup (pa_cons pe_non (pa_cons (pe_un un_neg pe_int) (pa_cons pe_bl (pa_cons pe_str (pa_cons (pe_lst (pa_cons pe_int pa_nil)) (pa_cons pe_dnewK pa_nil)))))))) (pg_name (i := 1) scRefused.nd rfl (Or.inr rfl))
        (pss_one (ps_if (pt_not (pt_val (pe_call GQ hr9 (by rfl) gQ kQ9 bQ .nil pass0 (pa_cons (by exact (pe_met (T := TT) (t := fun E => tCall (spCountNoted K C CP CO CN) [] E (tCons (tVar 0) (tCons (L2.tC (.int 2)) (tCons (tVar 1) tNil)))) FM bM gM kM TP TO TN (by rfl) TB rfl hmT huT hr6 (lamS_by (sc := defScope sRefused) (by decide +kernel)) (by rfl) (fun _ _ _ _ _ => by rfl) (fun A outer s H E f c' hr2 => by exact (pe_call GD hr2 (by rfl) gD kD9 bD .nil (passes_call (takes_of rfl rfl rfl rfl) fun _ _ _ _ h => h) (pa_cons (pv 0) (pa_cons pe_int (pa_cons (pv 1) pa_nil))))))) (pa_cons (pe_lst (pa_cons pe_str (pa_cons (pv 1) pa_nil))) pa_nil))))) (pss_one (ps_ret pe_bl)) (pss_nil))))
      (pss_cons (ps_set (i := 3) scRefused.nd rfl (Or.inr rfl) (pe_lst (pa_cons (pe_lst (pa_cons pe_str pa_nil)) (pa_cons (pe_lst (pa_cons pe_str pa_nil)) pa_nil))))
      (pss_cons (ps_set (i := 2) scRefused.nd rfl (Or.inl rfl) (pe_lst (pa_cons (by exact (pe_met (T := TT) (t := fun E => tCall (spCountNotes K C CP CO) [] E (tCons (tVar 0) (tCons (tOp (rIxL K) (tVar 3) (L2.tC (.int 0))) tNil))) FM bM gM kM TP TO TN (by rfl) TB rfl hmT huT hr6 (lamS_by (sc := defScope sRefused) (by decide +kernel)) (by rfl) (fun _ _ _ _ _ => by rfl) (fun A outer s H E f c' hr2 => by exact (pe_call GA hr2 (by rfl) gA kA9 bA .nil (passes_call (takes_of rfl rfl rfl rfl) fun _ _ _ _ h => h) (pa_cons (pv 0) (pa_cons (pe_ix ix_list (pv 3) pe_int (fun _ _ => rfl)) pa_nil)))))) pa_nil)))
      (pss_cons (ps_expr (pe_bm PySem.F.plainAttrs_list PySem.F.slot_list_append PySem.F.type_list_append mt_append (pv 2) (pa_cons (by exact (pe_met (T := TT) (t := fun E => tCall (spCountNoted K C CP CO CN) [] E (tCons (tVar 0) (tCons (L2.tC (.int 1)) (tCons (tOp (rIxL K) (tVar 3) (L2.tC (.int 1))) tNil)))) FM bM gM kM TP TO TN (by rfl) TB rfl hmT huT hr6 (lamS_by (sc := defScope sRefused) (by decide +kernel)) (by rfl) (fun _ _ _ _ _ => by rfl) (fun A outer s H E f c' hr2 => by exact (pe_call GD hr2 (by rfl) gD kD9 bD .nil (passes_call (takes_of rfl rfl rfl rfl) fun _ _ _ _ h => h) (pa_cons (pv 0) (pa_cons pe_int (pa_cons (pe_ix ix_list (pv 3) pe_int (fun _ _ => rfl)) pa_nil))))))) pa_nil)))
      (pss_cons (ps_expr (pe_bm PySem.F.plainAttrs_list PySem.F.slot_list_append PySem.F.type_list_append mt_append (pe_ix ix_list (pv 3) pe_int (fun _ _ => rfl)) (pa_cons pe_str pa_nil)))
      (pss_cons (ps_expr (pe_bm PySem.F.plainAttrs_list PySem.F.slot_list_append PySem.F.type_list_append mt_append (pe_ix ix_list (pv 3) pe_int (fun _ _ => rfl)) (pa_cons pe_str pa_nil)))
      (pss_one (ps_ret (pe_call GQ hr9 (by rfl) gQ kQ9 bQ .nil pass0 (pa_cons (pv 2) (pa_cons (pe_lst (pa_cons (pe_lst (pa_cons pe_str (pa_cons (pe_lst (pa_cons pe_str (pa_cons pe_str pa_nil))) pa_nil))) (pa_cons (pe_lst (pa_cons pe_str (pa_cons (pe_lst (pa_cons pe_str (pa_cons pe_str pa_nil))) pa_nil))) pa_nil))) pa_nil))))))))))))), ?_⟩
    have hzl : ∀ z ∈ zs, z.length ≤ 1000 := fun z hz => pool_len z (hpool z hz)
    have pathT : ∀ {G G' : Hp}, ExtN G G' → PathAt C G p t zs → PathAt C G' p t zs := fun en hp => ⟨let ⟨dx, e⟩ := hp.ob; ⟨dx, en _ _ e nt_i⟩, en _ _ hp.tu nt_t⟩
    have hwP : ∀ (Q : VK) (d : Option Addr) (H' : Hp), Says CP "thing" "path" Q (.ref CP) d H' → metW K CP CO CN Q (.ref CP) d H' := fun Q d H' s => ⟨true, TP.x.te, fun _ => s, fun z => nomatch z⟩
    have hwO : ∀ (Q : VK) (d : Option Addr) (H' : Hp), Says CO "most" "most" Q (.ref CO) d H' → metW K CP CO CN Q (.ref CO) d H' := fun Q d H' s => ⟨false, x1, (fun z => nomatch z), fun _ => ⟨true, TO.x.te, fun _ => s, fun z => nomatch z⟩⟩
    have hwN : ∀ (Q : VK) (d : Option Addr) (H' : Hp), Says CN "number" "number" Q (.ref CN) d H' → metW K CP CO CN Q (.ref CN) d H' := fun Q d H' s => ⟨false, x2, (fun z => nomatch z), fun _ => ⟨false, x3, (fun z => nomatch z), fun _ => ⟨true, TN.x.te, fun _ => s, fun z => nomatch z⟩⟩⟩
    -- what is no path
    refine ⟨by show 0 ≤ sizeLine; decide, fun q1 hq1 => ?_⟩
    generalize hE : upd H q1 _ = H1
    have sH1 : Same H H1 := hE ▸ same_upd hq1
    have eq1 := congrFun hE.symm q1
    rw [upd_same] at eq1
    clear hE
    refine fun q2 hq2 => ?_
    generalize hE : upd H1 q2 _ = H2
    have sH2 : Same H1 H2 := hE ▸ same_upd hq2
    have eq2 := congrFun hE.symm q2
    rw [upd_same] at eq2
    clear hE
    refine ⟨by show 6 ≤ sizeLine; decide, fun T1 hT1 => ?_⟩
    generalize hE : upd H2 T1 _ = H3
    have sH3 : Same H2 H3 := hE ▸ same_upd hT1
    have eT1 := congrFun hE.symm T1
    rw [upd_same] at eT1
    clear hE
    replace eT1 : H3 T1 = some (.tup [V.non, .int 5, .str "path", .ref q1, .ref q2, .bl true]) := eT1
    have s03 : Same H H3 := sH1.trans (sH2.trans sH3)
    have tG3 := hT.ext s03
    have all1 : ∀ v ∈ [V.non, .int 5, .str "path", .ref q1, .ref q2, .bl true], BadV K (fun _ => True) H3 v ∧ True := fun v hv => by
      refine ⟨?_, trivial⟩
      simp only [List.mem_cons, List.not_mem_nil, or_false] at hv
      rcases hv with rfl | rfl | rfl | rfl | rfl | rfl
      · exact .non
      · exact .int
      · exact .str (by decide)
      · exact .lst (sH3 _ _ (sH2 _ _ eq1))
      · exact .dct (sH3 _ _ eq2) (by decide) (fun _ z => nomatch z) trivial
      · exact .bl
    refine ⟨T1, rfl, ⟨_, SqT.of eT1⟩, ?_⟩
    generalize [V.non, .int 5, .str "path", .ref q1, .ref q2, .bl true] = os1 at all1 eT1
    refine for_tup (xs := os1) (fun i σ G' => ∃ w1 w2, σ = [some (.ref p), w1, w2, none] ∧ ExtN H3 G' ∧ Tabs TT G') ⟨none, none, rfl, ExtN.refl _, tG3⟩ (fun i σ G _ ⟨_, _, _, e, _⟩ => SqT.of (e _ _ eT1 nt_t)) ?_ ?_
    · rintro j v σ G4 hv4 ⟨w1, w2, rfl, en4, tG4⟩
      obtain ⟨hbv, hfv⟩ := all1 v (List.mem_of_getElem? hv4)
      obtain ⟨k4, hth, hsm, _⟩ := hbv
      refine st_name (two_met (i := 2) (σ := [some (.ref p), some v, w2, none]) (H := G4) (K := K) (CP := CP) (CO := CO) (CN := CN) (Cx := CP) (Cy := CP) (fld := "thing") (word := "path") (v := v) (fld2 := "thing") (word2 := "path") (v2 := v) tG4 (show 2 < 4 by decide) hwP hwP (fun G5 Q' E' en5 hE => ?_) (fun D G5 Q' E' en5 hE => ?_) ?_)
      · refine ⟨_, rfl, ?_⟩
        show spCountNotes K C CP CO [v, .non] G5 Q' E'
        exact path_bad1 ((hth.extN en4).extN en5) hE
      · refine ⟨_, rfl, _, rfl, ?_⟩
        show spCountNoted K C CP CO CN [v, .int 0, .int (-1)] G5 Q' E'
        exact path_bad2 ((hth.extN en4).extN en5) hE
      intro D p1 p2 G5 en5x tG5 gD gp1 gp2
      have en5 : ExtN H3 G5 := en4.trans en5x
      refine ⟨_, rfl, _, rfl, by show 2 ≤ sizeLine; decide, fun u hu2 => ?_⟩
      generalize hE : upd G5 u _ = G6
      have sG6 : Same G5 G6 := hE ▸ same_upd hu2
      have eu := congrFun hE.symm u
      rw [upd_same] at eu
      clear hE
      refine ⟨by show 1 ≤ sizeLine; decide, fun l1 hl1 => ?_⟩
      generalize hE : upd G6 l1 _ = G7
      have sG7 : Same G6 G7 := hE ▸ same_upd hl1
      have el1 := congrFun hE.symm l1
      rw [upd_same] at el1
      clear hE
      refine ⟨l1, 2, _, rfl, rfl, el1, by decide, by decide, by show 1 * 2 ≤ sizeLine; decide, fun qq hq => ?_⟩
      generalize hE : upd G7 qq _ = G8
      have sG8 : Same G7 G8 := hE ▸ same_upd hq
      have eqq := congrFun hE.symm qq
      rw [upd_same] at eqq
      clear hE
      have s58 : Same G5 G8 := sG6.trans (sG7.trans sG8)
      have hsd : SameD G8 6 v v := (hsm.extN en5).mono s58
      refine ⟨.ref D, .ref qq, rfl, same_rep (n := 2) (t := u) (word := "path") (v := v) (ps := [p1, p2]) (s58 _ _ gD) (fun r hr => ?_) rfl (by decide) eqq (sG8 _ _ (sG7 _ _ eu)) (by decide) hsd, fun G9 s9 => ⟨true, rfl, iteF ?_⟩⟩
      · simp only [List.mem_cons, List.not_mem_nil, or_false] at hr
        rcases hr with rfl | rfl
        · exact s58 _ _ gp1
        · exact s58 _ _ gp2
      exact ⟨_, _, rfl, en5.trans (ExtN.of (s58.trans s9)), tG5.ext (s58.trans s9)⟩
    rintro σ Ga ⟨w1, w2, rfl, enA, tA⟩
    -- what is no number of times
    have en0 : ExtN H Ga := (ExtN.of s03).trans enA
    refine ⟨_, rfl, by show 1 ≤ sizeLine; decide, fun q3 hq3 => ?_⟩
    generalize hE : upd Ga q3 _ = Ha1
    have sHa1 : Same Ga Ha1 := hE ▸ same_upd hq3
    have eq3 := congrFun hE.symm q3
    rw [upd_same] at eq3
    clear hE
    refine fun q4 hq4 => ?_
    generalize hE : upd Ha1 q4 _ = Ha2
    have sHa2 : Same Ha1 Ha2 := hE ▸ same_upd hq4
    have eq4 := congrFun hE.symm q4
    rw [upd_same] at eq4
    clear hE
    refine ⟨by show 7 ≤ sizeLine; decide, fun T2 hT2 => ?_⟩
    generalize hE : upd Ha2 T2 _ = Ha3
    have sHa3 : Same Ha2 Ha3 := hE ▸ same_upd hT2
    have eT2 := congrFun hE.symm T2
    rw [upd_same] at eT2
    clear hE
    replace eT2 : Ha3 T2 = some (.tup [V.non, .int 0, .int (-1), .bl true, .str "1", .ref q3, .ref q4]) := eT2
    have sA3 : Same Ga Ha3 := sHa1.trans (sHa2.trans sHa3)
    have tGa3 := tA.ext sA3
    have hpa := pathT (en0.trans (ExtN.of sA3)) hp
    have all2 : ∀ v ∈ [V.non, .int 0, .int (-1), .bl true, .str "1", .ref q3, .ref q4], BadV K (fun _ => True) Ha3 v ∧ timesB v = false := fun v hv => by
      simp only [List.mem_cons, List.not_mem_nil, or_false] at hv
      rcases hv with rfl | rfl | rfl | rfl | rfl | rfl | rfl
      · exact ⟨.non, rfl⟩
      · exact ⟨.int, rfl⟩
      · exact ⟨.int, rfl⟩
      · exact ⟨.bl, rfl⟩
      · exact ⟨.str (by decide), rfl⟩
      · exact ⟨.lst1 (sHa3 _ _ (sHa2 _ _ eq3)), rfl⟩
      · exact ⟨.dct (sHa3 _ _ eq4) (by decide) (fun _ z => nomatch z) trivial, rfl⟩
    refine ⟨T2, rfl, ⟨_, SqT.of eT2⟩, ?_⟩
    generalize [V.non, .int 0, .int (-1), .bl true, .str "1", .ref q3, .ref q4] = os2 at all2 eT2
    refine for_tup (xs := os2) (fun i σ G' => ∃ w1 w2, σ = [some (.ref p), w1, w2, none] ∧ ExtN Ha3 G' ∧ Tabs TT G') ⟨_, _, rfl, ExtN.refl _, tGa3⟩ (fun i σ G _ ⟨_, _, _, e, _⟩ => SqT.of (e _ _ eT2 nt_t)) ?_ ?_
    · rintro j v σ G4 hv4 ⟨w1, w2, rfl, en4, tG4⟩
      obtain ⟨hbv, hfv⟩ := all2 v (List.mem_of_getElem? hv4)
      obtain ⟨k4, hth, hsm, _⟩ := hbv
      refine st_name (two_met (i := 2) (σ := [some (.ref p), some v, w2, none]) (H := G4) (K := K) (CP := CP) (CO := CO) (CN := CN) (Cx := CO) (Cy := CO) (fld := "most") (word := "most") (v := v) (fld2 := "most") (word2 := "most") (v2 := v) tG4 (show 2 < 4 by decide) hwO hwO (fun G5 Q' E' en5 hE => ?_) (fun D G5 Q' E' en5 hE => ?_) ?_)
      · refine ⟨_, rfl, _, rfl, ?_⟩
        show spCountNotes K C CP CO [.ref p, v] G5 Q' E'
        exact most_bad1 (pathT (en4.trans en5) hpa) hnd hpool h2 h20 ((hth.extN en4).extN en5) hfv hE
      · refine ⟨_, rfl, _, rfl, ?_⟩
        show spCountNoted K C CP CO CN [.ref p, v, .non] G5 Q' E'
        exact most_bad2 (pathT (en4.trans en5) hpa) hnd hpool h2 h20 ((hth.extN en4).extN en5) hfv hE
      intro D p1 p2 G5 en5x tG5 gD gp1 gp2
      have en5 : ExtN Ha3 G5 := en4.trans en5x
      refine ⟨_, rfl, _, rfl, by show 2 ≤ sizeLine; decide, fun u hu2 => ?_⟩
      generalize hE : upd G5 u _ = G6
      have sG6 : Same G5 G6 := hE ▸ same_upd hu2
      have eu := congrFun hE.symm u
      rw [upd_same] at eu
      clear hE
      refine ⟨by show 1 ≤ sizeLine; decide, fun l1 hl1 => ?_⟩
      generalize hE : upd G6 l1 _ = G7
      have sG7 : Same G6 G7 := hE ▸ same_upd hl1
      have el1 := congrFun hE.symm l1
      rw [upd_same] at el1
      clear hE
      refine ⟨l1, 2, _, rfl, rfl, el1, by decide, by decide, by show 1 * 2 ≤ sizeLine; decide, fun qq hq => ?_⟩
      generalize hE : upd G7 qq _ = G8
      have sG8 : Same G7 G8 := hE ▸ same_upd hq
      have eqq := congrFun hE.symm qq
      rw [upd_same] at eqq
      clear hE
      have s58 : Same G5 G8 := sG6.trans (sG7.trans sG8)
      have hsd : SameD G8 6 v v := (hsm.extN en5).mono s58
      refine ⟨.ref D, .ref qq, rfl, same_rep (n := 2) (t := u) (word := "most") (v := v) (ps := [p1, p2]) (s58 _ _ gD) (fun r hr => ?_) rfl (by decide) eqq (sG8 _ _ (sG7 _ _ eu)) (by decide) hsd, fun G9 s9 => ⟨true, rfl, iteF ?_⟩⟩
      · simp only [List.mem_cons, List.not_mem_nil, or_false] at hr
        rcases hr with rfl | rfl
        · exact s58 _ _ gp1
        · exact s58 _ _ gp2
      exact ⟨_, _, rfl, en5.trans (ExtN.of (s58.trans s9)), tG5.ext (s58.trans s9)⟩
    rintro σ Gb ⟨w1, w2, rfl, enB, tB⟩
    -- what is no number
    have en0b : ExtN H Gb := (en0.trans (ExtN.of sA3)).trans enB
    refine ⟨_, rfl, by show 1 ≤ sizeLine; decide, fun q5 hq5 => ?_⟩
    generalize hE : upd Gb q5 _ = Hb1
    have sHb1 : Same Gb Hb1 := hE ▸ same_upd hq5
    have eq5 := congrFun hE.symm q5
    rw [upd_same] at eq5
    clear hE
    refine fun q6 hq6 => ?_
    generalize hE : upd Hb1 q6 _ = Hb2
    have sHb2 : Same Hb1 Hb2 := hE ▸ same_upd hq6
    have eq6 := congrFun hE.symm q6
    rw [upd_same] at eq6
    clear hE
    refine ⟨by show 6 ≤ sizeLine; decide, fun T3 hT3 => ?_⟩
    generalize hE : upd Hb2 T3 _ = Hb3
    have sHb3 : Same Hb2 Hb3 := hE ▸ same_upd hT3
    have eT3 := congrFun hE.symm T3
    rw [upd_same] at eT3
    clear hE
    replace eT3 : Hb3 T3 = some (.tup [V.non, .int (-1), .bl true, .str "1", .ref q5, .ref q6]) := eT3
    have sB3 : Same Gb Hb3 := sHb1.trans (sHb2.trans sHb3)
    have tGb3 := tB.ext sB3
    have hpb := pathT (en0b.trans (ExtN.of sB3)) hp
    have all3 : ∀ v ∈ [V.non, .int (-1), .bl true, .str "1", .ref q5, .ref q6], BadV K (fun _ => True) Hb3 v ∧ numB v = false := fun v hv => by
      simp only [List.mem_cons, List.not_mem_nil, or_false] at hv
      rcases hv with rfl | rfl | rfl | rfl | rfl | rfl
      · exact ⟨.non, rfl⟩
      · exact ⟨.int, rfl⟩
      · exact ⟨.bl, rfl⟩
      · exact ⟨.str (by decide), rfl⟩
      · exact ⟨.lst1 (sHb3 _ _ (sHb2 _ _ eq5)), rfl⟩
      · exact ⟨.dct (sHb3 _ _ eq6) (by decide) (fun _ z => nomatch z) trivial, rfl⟩
    refine ⟨T3, rfl, ⟨_, SqT.of eT3⟩, ?_⟩
    generalize [V.non, .int (-1), .bl true, .str "1", .ref q5, .ref q6] = os3 at all3 eT3
    refine for_tup (xs := os3) (fun i σ G' => ∃ w1 w2, σ = [some (.ref p), w1, w2, none] ∧ ExtN Hb3 G' ∧ Tabs TT G') ⟨_, _, rfl, ExtN.refl _, tGb3⟩ (fun i σ G _ ⟨_, _, _, e, _⟩ => SqT.of (e _ _ eT3 nt_t)) ?_ ?_
    · rintro j v σ G4 hv4 ⟨w1, w2, rfl, en4, tG4⟩
      obtain ⟨hbv, hfv⟩ := all3 v (List.mem_of_getElem? hv4)
      obtain ⟨k4, hth, hsm, _⟩ := hbv
      refine st_name (one_met (σ := [some (.ref p), some v, w2, none]) (H := G4) (K := K) (CP := CP) (CO := CO) (CN := CN) (Cx := CN) (fld := "number") (word := "number") (v := v) tG4 hwN (fun G5 Q' E' en5 hE => ?_) ?_)
      · refine ⟨_, rfl, _, rfl, ?_⟩
        show spCountNoted K C CP CO CN [.ref p, .int 2, v] G5 Q' E'
        exact num_bad1 (pathT (en4.trans en5) hpb) hnd hpool h2 h20 (by decide) ((hth.extN en4).extN en5) hfv hE
      intro qa G5 en5x tG5 gq
      have en5 : ExtN Hb3 G5 := en4.trans en5x
      refine ⟨_, rfl, by show 2 ≤ sizeLine; decide, fun u hu2 => ?_⟩
      generalize hE : upd G5 u _ = G6
      have sG6 : Same G5 G6 := hE ▸ same_upd hu2
      have eu := congrFun hE.symm u
      rw [upd_same] at eu
      clear hE
      refine ⟨.ref qa, .ref u, rfl, (same_pair (sG6 _ _ gq) eu (by decide) ((hsm.extN en5).mono sG6)).up 1, fun G8 s8 => ⟨true, rfl, iteF ?_⟩⟩
      exact ⟨_, _, rfl, en5.trans (ExtN.of (sG6.trans s8)), tG5.ext (sG6.trans s8)⟩
    rintro σ Gc ⟨w1, w2, rfl, enC, tC⟩
    -- what is held
    have en0c : ExtN H Gc := (en0b.trans (ExtN.of sB3)).trans enC
    refine ⟨by show 1 ≤ sizeLine; decide, fun h1 hh1 => ?_⟩
    generalize hE : upd Gc h1 _ = G9
    have sG9 : Same Gc G9 := hE ▸ same_upd hh1
    have eh1 := congrFun hE.symm h1
    rw [upd_same] at eh1
    clear hE
    refine ⟨by show 1 ≤ sizeLine; decide, fun h2' hh2 => ?_⟩
    generalize hE : upd G9 h2' _ = G10
    have sG10 : Same G9 G10 := hE ▸ same_upd hh2
    have eh2' := congrFun hE.symm h2'
    rw [upd_same] at eh2'
    clear hE
    refine ⟨by show 2 ≤ sizeLine; decide, fun h0 hh0 => ?_⟩
    generalize hE : upd G10 h0 _ = G11
    have sG11 : Same G10 G11 := hE ▸ same_upd hh0
    have eh0 := congrFun hE.symm h0
    rw [upd_same] at eh0
    clear hE
    have sC11 : Same Gc G11 := sG9.trans (sG10.trans sG11)
    have eh1' := sG11 _ _ (sG10 _ _ eh1)
    have eh2'' := sG11 _ _ eh2'
    have h12 : h1 ≠ h2' := ne_of_none eh1 hh2
    have t11 := tC.ext sC11
    have en011 : ExtN H G11 := en0c.trans (ExtN.of sC11)
    have hpc := pathT en011 hp
    have oddL : ∀ {G : Hp} {b : Addr}, G b = some (.lst [V.str "x"]) → Th K G (.ref b) .list := fun e => .lst e
    refine st_name (two_met (i := 2) (σ := [some (.ref p), w1, w2, some (.ref h0)]) (H := G11) (K := K) (CP := CP) (CO := CO) (CN := CN) (Cx := CO) (Cy := CN) (fld := "most") (word := "most") (v := .ref h1) (fld2 := "number") (word2 := "number") (v2 := .ref h2') t11 (show 2 < 4 by decide) hwO hwN (fun G1 Q' E' en1 hE => ?_) (fun D G1 Q' E' en1 hE => ?_) ?_)
    · refine ⟨_, rfl, _, rfl, h0, _, 0, .ref h1, rfl, rfl, SqL.of (en1 _ _ eh0 nt_l), rfl, ?_⟩
      show spCountNotes K C CP CO [.ref p, .ref h1] G1 Q' E'
      exact most_bad1 (pathT en1 hpc) hnd hpool h2 h20 (oddL (en1 _ _ eh1' nt_l)) rfl hE
    · refine ⟨_, rfl, _, rfl, h0, _, 1, .ref h2', rfl, rfl, SqL.of (en1 _ _ eh0 nt_l), rfl, ?_⟩
      show spCountNoted K C CP CO CN [.ref p, .int 1, .ref h2'] G1 Q' E'
      exact num_bad1 (pathT en1 hpc) hnd hpool h2 h20 (by decide) (oddL (en1 _ _ eh2'' nt_l)) rfl hE
    intro D p1 p2 G12 en12 tG12 gD gp1 gp2
    have e1h := en12 _ _ eh1' nt_l
    have e2h := en12 _ _ eh2'' nt_l
    have e0h := en12 _ _ eh0 nt_l
    have lne : ∀ {G : Hp} {b c : Addr} {xs ys : List V}, G b = some (.lst xs) → G c = some (.lst ys) → xs.length ≠ ys.length → b ≠ c := fun e1 e2 n z => by rw [z, e2] at e1; cases e1; exact n rfl
    -- changed
    refine ⟨_, rfl, h0, _, 0, .ref h1, rfl, rfl, SqL.of e0h, rfl, .inl ⟨rfl, _, SqL.of e1h⟩, h1, _, _, rfl, rfl, e1h, by show 1 < sizeLine; decide, ?_⟩
    have k13 : ∀ b o, b ≠ h1 → G12 b = some o → (upd G12 h1 (.lst ([V.str "x"] ++ [V.str "late"]))) b = some o := fun b o hb e => by rw [upd_ne hb]; exact e
    have e13 : (upd G12 h1 (.lst ([V.str "x"] ++ [V.str "late"]))) h1 = some (.lst [V.str "x", V.str "late"]) := upd_same
    have t13 : Tabs TT (upd G12 h1 (.lst ([V.str "x"] ++ [V.str "late"]))) := tabs_keep tG12 fun b o n1 _ e => k13 b o (fun z => n1 [V.str "x"] (Option.some.inj (e.symm.trans (by rw [z]; exact e1h)))) e
    generalize upd G12 h1 (.lst ([V.str "x"] ++ [V.str "late"])) = G13 at k13 e13 t13
    have e2h3 := k13 _ _ (Ne.symm h12) e2h
    have h0ne : h0 ≠ h1 := lne e0h e1h (by show 2 ≠ 1; decide)
    have h0ne2 : h0 ≠ h2' := lne e0h e2h (by show 2 ≠ 1; decide)
    refine ⟨_, rfl, h0, _, 1, .ref h2', rfl, rfl, SqL.of (k13 _ _ h0ne e0h), rfl, .inl ⟨rfl, _, SqL.of e2h3⟩, h2', _, _, rfl, rfl, e2h3, by show 1 < sizeLine; decide, ?_⟩
    have k14 : ∀ b o, b ≠ h2' → G13 b = some o → (upd G13 h2' (.lst ([V.str "x"] ++ [V.str "late"]))) b = some o := fun b o hb e => by rw [upd_ne hb]; exact e
    have f14 : (upd G13 h2' (.lst ([V.str "x"] ++ [V.str "late"]))) h2' = some (.lst [V.str "x", V.str "late"]) := upd_same
    have t14 : Tabs TT (upd G13 h2' (.lst ([V.str "x"] ++ [V.str "late"]))) := tabs_keep t13 fun b o n1 _ e => k14 b o (fun z => n1 [V.str "x"] (Option.some.inj (e.symm.trans (by rw [z]; exact e2h3)))) e
    generalize upd G13 h2' (.lst ([V.str "x"] ++ [V.str "late"])) = G14 at k14 f14 t14
    have e14 := k14 _ _ h12 e13
    have kk : ∀ b o, b ≠ h1 → b ≠ h2' → G12 b = some o → G14 b = some o := fun b o n1 n2 e => k14 b o n2 (k13 b o n1 e)
    have gD4 := kk _ _ (lne gD e1h (by show 2 ≠ 1; decide)) (lne gD e2h (by show 2 ≠ 1; decide)) gD
    have gp14 := kk _ _ (lne gp1 e1h (by show 2 ≠ 1; decide)) (lne gp1 e2h (by show 2 ≠ 1; decide)) gp1
    have gp24 := kk _ _ (lne gp2 e1h (by show 2 ≠ 1; decide)) (lne gp2 e2h (by show 2 ≠ 1; decide)) gp2
    -- what is due
    refine ⟨_, rfl, by show 2 ≤ sizeLine; decide, fun U1 hU1 => ?_⟩
    generalize hE : upd G14 U1 _ = G17
    have sG17 : Same G14 G17 := hE ▸ same_upd hU1
    have eU1 := congrFun hE.symm U1
    rw [upd_same] at eU1
    clear hE
    refine ⟨by show 2 ≤ sizeLine; decide, fun L4 hL4 => ?_⟩
    generalize hE : upd G17 L4 _ = G18
    have sG18 : Same G17 G18 := hE ▸ same_upd hL4
    have eL4 := congrFun hE.symm L4
    rw [upd_same] at eL4
    clear hE
    refine ⟨by show 2 ≤ sizeLine; decide, fun U2 hU2 => ?_⟩
    generalize hE : upd G18 U2 _ = G19
    have sG19 : Same G18 G19 := hE ▸ same_upd hU2
    have eU2 := congrFun hE.symm U2
    rw [upd_same] at eU2
    clear hE
    refine ⟨by show 2 ≤ sizeLine; decide, fun L5 hL5 => ?_⟩
    generalize hE : upd G19 L5 _ = G20
    have sG20 : Same G19 G20 := hE ▸ same_upd hL5
    have eL5 := congrFun hE.symm L5
    rw [upd_same] at eL5
    clear hE
    refine ⟨by show 2 ≤ sizeLine; decide, fun L7 hL7 => ?_⟩
    generalize hE : upd G20 L7 _ = G21
    have sG21 : Same G20 G21 := hE ▸ same_upd hL7
    have eL7 := congrFun hE.symm L7
    rw [upd_same] at eL7
    clear hE
    have s1421 : Same G14 G21 := sG17.trans (sG18.trans (sG19.trans (sG20.trans sG21)))
    have dd : ∀ {b c : Addr}, G21 b = some (.lst [V.str "x", V.str "late"]) → G21 c = some (.lst [V.str "x", V.str "late"]) → SameD G21 6 (.ref b) (.ref c) := fun hb hc => .lst (n := 5) hb hc rfl (by show 2 ≤ 1000; decide) fun i x y e1 e2 => by
      match i, e1, e2 with
      | 0, rfl, rfl => exact .str (by decide)
      | 1, rfl, rfl => exact .str (by decide)
    have pr2 : ∀ {q r : Addr} {z : Str} {x y : V}, G21 q = some (.lst [.str z, x]) → G21 r = some (.lst [.str z, y]) → z.length ≤ 1000 → SameD G21 6 x y → SameD G21 7 (.ref q) (.ref r) := fun hq hr hz h => .lst hq hr rfl (by show 2 ≤ 1000; decide) fun i x y e1 e2 => by
      match i, e1, e2 with
      | 0, rfl, rfl => exact .str hz
      | 1, rfl, rfl => exact h
    have d3 := pr2 (s1421 _ _ gp14) (sG21 _ _ (sG20 _ _ (sG19 _ _ eL4))) (by decide) (dd (s1421 _ _ e14) (sG21 _ _ (sG20 _ _ (sG19 _ _ (sG18 _ _ eU1)))))
    have d4 := pr2 (s1421 _ _ gp24) (sG21 _ _ eL5) (by decide) (dd (s1421 _ _ f14) (sG21 _ _ (sG20 _ _ eU2)))
    have d5 : SameD G21 8 (.ref D) (.ref L7) := .lst (s1421 _ _ gD4) eL7 rfl (by show 2 ≤ 1000; decide) fun i x y e1 e2 => by
      match i, e1, e2 with
      | 0, rfl, rfl => exact d3
      | 1, rfl, rfl => exact d4
    refine ⟨.ref D, .ref L7, rfl, d5, fun G24 s24 => ?_⟩
    have s1424 := s1421.trans s24
    refine q G24 (fun b o e nt => ?_) (t14.ext s1424)
    have ec := en0c b o e nt
    exact s1424 _ _ (kk _ _ (ne_of_none ec hh1) (ne_of_none (sG9 _ _ ec) hh2) (en12 _ _ (sC11 _ _ ec) nt))

end
end RK

/-! the end of a law whose promise speaks of calls from where no repr runs (FnG), with tables of code objects; where sys.modules stands is told, too -/
namespace LamX
open PySem PySem.Spec PyProof.Rows L2
/-- what is tracked at first: the tables, and the script where it is not the module's own -/
def hpEnd (K : PySem.W.Frag) (sc : Addr) (items : List Value) (ns : List Int) (ts : List Addr) : Hp := fun b =>
  if b ∈ ts then some (.tbl #[]) else if b = sc ∧ (K.lookup sc).isNone = true then some (.frz { cls := .type "list", data := .seq items.toArray } (.lst (ns.map V.int))) else none
theorem hpEnd_tab {K : PySem.W.Frag} {sc b : Addr} {items : List Value} {ns : List Int} {ts : List Addr} (h : b ∈ ts) : hpEnd K sc items ns ts b = some (.tbl #[]) := if_pos h
theorem hpEnd_sc {K : PySem.W.Frag} {sc : Addr} {items : List Value} {ns : List Int} {ts : List Addr} (h : sc ∉ ts) (e : K.lookup sc = none) : hpEnd K sc items ns ts sc = some (.frz { cls := .type "list", data := .seq items.toArray } (.lst (ns.map V.int))) :=
  (if_neg h).trans (if_pos ⟨rfl, by rw [e]; rfl⟩)
theorem hpEnd_of {K : PySem.W.Frag} {sc b : Addr} {items : List Value} {ns : List Int} {ts : List Addr} {o : HO} (h : hpEnd K sc items ns ts b = some o) :
    (b ∈ ts ∧ o = .tbl #[]) ∨ (b ∉ ts ∧ b = sc ∧ K.lookup sc = none ∧ o = .frz { cls := .type "list", data := .seq items.toArray } (.lst (ns.map V.int))) := by
  by_cases hb : b ∈ ts
  · rw [hpEnd_tab hb] at h
    exact .inl ⟨hb, (Option.some.inj h).symm⟩
  · have h1 := (if_neg hb).symm.trans h
    by_cases hs : b = sc ∧ (K.lookup sc).isNone = true
    · have h2 := (if_pos hs).symm.trans h1
      exact .inr ⟨hb, hs.1, Option.isNone_iff_eq_none.mp hs.2, (Option.some.inj h2).symm⟩
    · have h2 := (if_neg hs).symm.trans h1
      cases h2
theorem call_guarded {P : Program} {w : World} {K : PySem.W.Frag} {mg mb : Str → Option Value} {CX : CXT} {k : Nat} {fa sc : Addr} {tabs : List (Addr × Addr)} {fd : FuncData} {x : Str} {sp : Sp} {u : Shared} {items : List Value} {ns : List Int}
    (kin : K.In u.heap) (nsG : u.heap.Ns mainGlobals mg) (nsB : u.heap.Ns builtinsNs mb) (bb : ∀ y : Str, y ≠ "__name__" → mb y = bootBuiltins y) (nolim : u.heap.NoLimit) (nogen : u.gens = #[])
    (tab : ∀ q ∈ tabs, u.heap.get? q.2 = some { cls := .none, data := .fields #[] }) (tabK : ∀ q ∈ tabs, K.lookup q.2 = none) (code : ∀ q ∈ tabs, PySem.W.CodeHd u.heap q.1 q.2)
    (main : ∃ (bm : Addr) (ob : Obj), mg "__builtins__" = some (.ref bm) ∧ bm ≠ builtinsNs ∧ u.heap.get? bm = some ob ∧ ob.cls = .type "module" ∧ ob.dict = some builtinsNs ∧ ob.data = .plain)
    (hsc : u.heap.get? sc = some { cls := .type "list", data := .seq items.toArray }) (hints : IntsAre items ns) (small : ns.length ≤ sizeLine) (room : Room k callerA) (quiet : callerA.guards = some [])
    (mods : ∃ mm, u.heap.Ns sysModules mm)
    (F : ∀ base : Heap, K.In base → base.Ns mainGlobals mg → (∃ mm, base.Ns sysModules mm) → (∀ q ∈ tabs, TabB base mg q.1 q.2) → FnG P w K mg base CX k fa fd [x] sp) (binds : ∀ (s : Shared) (v : Value), BindsTo s fd ⟨[v], []⟩ [(x, v)])
    (promise : ∀ H : Hp, (∀ q ∈ tabs, H q.2 = some (.tbl #[])) → SqL K H sc (ns.map V.int) → sp [.ref sc] H (fun v _ => v = .bl true) fun _ _ _ => False)
    (never : ∀ H e s', CX [] H u (fun _ _ _ => False) e s' → False) :
    codeAny (model P w) callerA (.call (.ref fa) ⟨[.ref sc], []⟩) (fun r s' => r = .ok (.ret (.bool true)) ∧ OldK u.heap s'.heap ∧ s'.os = u.os ∧ AllBare s'.gens) u := by
  have rel := vals_ints hints
  have count := hints.length
  have memT : ∀ q ∈ tabs, q.2 ∈ tabs.map (·.2) := fun q hq => List.mem_map_of_mem hq
  have atT : ∀ b : Addr, b ∈ tabs.map (·.2) → u.heap.get? b = some { cls := .none, data := .fields #[] } ∧ K.lookup b = none := fun b hb => by
    obtain ⟨q, hq, rfl⟩ := List.mem_map.mp hb
    exact ⟨tab q hq, tabK q hq⟩
  have scT : sc ∉ tabs.map (·.2) := fun z => by
    have q := (atT sc z).1
    rw [hsc] at q
    exact absurd (congrArg Obj.data (Option.some.inj q)) (fun y => by cases (show Data.seq items.toArray _ = Data.fields #[] from y))
  generalize hH : hpEnd K sc items ns (tabs.map (·.2)) = H
  have tk : ∀ q ∈ tabs, H q.2 = some (.tbl #[]) := fun q hq => by rw [← hH]; exact hpEnd_tab (memT q hq)
  have ofH : ∀ {b : Addr} {o : HO}, H b = some o → (b ∈ tabs.map (·.2) ∧ o = .tbl #[]) ∨ (b ∉ tabs.map (·.2) ∧ b = sc ∧ K.lookup sc = none ∧ o = .frz { cls := .type "list", data := .seq items.toArray } (.lst (ns.map V.int))) := fun {b o} e => by
    rw [← hH] at e
    exact hpEnd_of e
  have hS : SqL K H sc (ns.map V.int) := by
    cases hk : K.lookup sc with
    | none => exact .inl (.inr ⟨_, by rw [← hH]; exact hpEnd_sc scT hk⟩)
    | some o =>
      have e := kin sc o hk
      rw [hsc] at e
      cases e
      exact .inr ⟨_, items.toArray, _, hk, rfl, rfl, rfl, by rw [List.size_toArray, count]; exact small, by simpa using rel⟩
  have hok : HOk P w H u.heap := fun b o z => by
    rcases ofH z with ⟨hb, rfl⟩ | ⟨_, rfl, _, rfl⟩
    · exact (atT b hb).1
    · exact ⟨hsc, by rw [List.length_map]; exact small, items, _, rel, hsc⟩
  -- what is untracked
  have free : ∀ {b : Addr} {o : Obj}, u.heap.get? b = some o → (∀ vs n, o.data ≠ .seq vs n) → o.data ≠ .fields #[] → H b = none := fun {b o} e h1 h2 => by
    cases q : H b with
    | none => rfl
    | some ho =>
      rcases ofH q with ⟨hb, _⟩ | ⟨_, hb, _, _⟩
      · rw [(atT b hb).1] at e
        cases e
        exact (h2 rfl).elim
      · rw [hb, hsc] at e
        cases e
        exact (h1 _ _ rfl).elim
  have kept : ∀ {b : Addr} {o : Obj}, u.heap.get? b = some o → H b = none → (hidT u.heap H).get? b = some o := fun e n => hidT_get e n
  have isD : ∀ {b : Addr} {o : Obj} {es : Array DictEntry} {ep : Nat}, u.heap.get? b = some o → o.data = .dict es ep → H b = none := fun {b o es ep} e d =>
    free e (fun vs n z => by rw [d] at z; cases z) fun z => by rw [d] at z; cases z
  have ns2 : ∀ {b : Addr} {m : Str → Option Value}, u.heap.Ns b m → (hidT u.heap H).Ns b m := fun {b m} ⟨o, es, ep, e, d, r⟩ => ⟨o, es, ep, kept e (isD e d), d, r⟩
  have kin2 : K.In (hidT u.heap H) := fun b o e => kept (kin b o e) (by
    cases q : H b with
    | none => rfl
    | some ho =>
      rcases ofH q with ⟨hb, _⟩ | ⟨_, hb, hk, _⟩
      · rw [(atT b hb).2] at e; cases e
      · rw [hb, hk] at e; cases e)
  have mod2 : L2.Mod K mg (hidT u.heap H) := ⟨kin2, ns2 nsG, ⟨mb, ns2 nsB, bb⟩, let ⟨mc, m1, m2⟩ := nolim; ⟨mc, ns2 m1, m2⟩⟩
  have tabs2 : ∀ q ∈ tabs, TabB (hidT u.heap H) mg q.1 q.2 := fun q hq => by
    have at2 := tab q hq
    refine ⟨?_, ?_, fun z => ?_⟩
    · obtain ⟨o, us, file, tf, flags, tg, inF, text, tt, e1, r1, r2, r3, r⟩ := code q hq
      exact ⟨o, us, file, tf, flags, tg, inF, text, tt, kept e1 (free e1 (fun vs n z => by rw [r2] at z; cases z) fun z => by rw [r2] at z; cases z; simp at r3), r1, r2, r3, r⟩
    · obtain ⟨bm, ob, b1, b2, b3, b4, b5, b6⟩ := main
      refine ⟨bm, ob, b1, b2, fun z => ?_, fun z => ?_, kept b3 (free b3 (fun vs n z => by rw [b6] at z; cases z) fun z => by rw [b6] at z; cases z), b4, b5, b6⟩
      · obtain ⟨o, es, ep, e, d, _⟩ := nsG
        rw [z, e] at b3; cases b3
        rw [d] at b6; cases b6
      · rw [z, at2] at b3; cases b3; cases b6
    · obtain ⟨o, es, ep, e, d, _⟩ := nsG
      rw [z, at2] at e; cases e; cases d
  have env : Env0 P w K mg (hidT u.heap H) callerA [] u H := ⟨rfl, mod2, fun b o e => of_hidT e, Nat.le_of_eq (hidT_size _ _), trivial, fun b hb => absurd (show b ∈ ([] : List Addr) from hb) List.not_mem_nil, hok, .of_eq nogen⟩
  refine codeAny_mono ((F _ kin2 (ns2 nsG) (let ⟨mm, h⟩ := mods; ⟨mm, ns2 h⟩) tabs2).run callerA [] u H ⟨[.ref sc], []⟩ [.ref sc] [.ref sc] _ _ room quiet env (binds u (.ref sc)) (.cons rfl .nil) (promise H tk hS)) fun r s' h => ?_
  match r, h with
  | .error e, h => exact (never H e s' h).elim
  | .ok .next, h => exact False.elim h
  | .ok .brk, h => exact False.elim h
  | .ok .cont, h => exact False.elim h
  | .ok (.ret z), ⟨v, H', os, bare, un, hok', r', q⟩ =>
    have q' : v = .bl true := q
    subst q'
    obtain rfl : z = Value.bool true := r'
    have stays : ∀ b o, b ∉ tabs.map (·.2) → u.heap.get? b = some o → s'.heap.get? b = some o := fun b o nb e => by
      cases q : H b with
      | none => exact un.keep b o e q (fun z => absurd (show b ∈ ([] : List Addr) from z) List.not_mem_nil) (by simp)
      | some ho =>
        rcases ofH q with ⟨hb, _⟩ | ⟨_, rfl, _, rfl⟩
        · exact absurd hb nb
        · rw [hsc] at e
          cases e
          exact (hok' b _ (un.frzs b _ _ q)).1
    have grown : ∀ b, b ∈ tabs.map (·.2) → ∃ more : Array Value, s'.heap.get? b = some { cls := .none, data := .fields more } := fun b hb => by
      obtain ⟨more, z⟩ := un.tbls b #[] (by rw [← hH]; exact hpEnd_tab hb)
      exact ⟨_, hok' b _ z⟩
    refine ⟨rfl, ⟨fun b o e => ?_, fun b o e => ?_⟩, os, bare⟩
    · by_cases hb : b ∈ tabs.map (·.2)
      · obtain ⟨more, hm⟩ := grown b hb
        obtain ⟨q, hq, rfl⟩ := List.mem_map.mp hb
        rw [tab q hq] at e; cases e
        exact .inr (.inl ⟨((code q hq).tab (tab q hq)).isCodeTable, rfl, #[], more, rfl, by rw [Array.empty_append]; exact hm⟩)
      · exact .inl (stays b o hb e)
    · by_cases hb : b ∈ tabs.map (·.2)
      · obtain ⟨more, hm⟩ := grown b hb
        exact ⟨_, hm⟩
      · exact ⟨o, stays b o hb e⟩
/-- what the law's promise gives at the heap behind the top -/
def LawAtG (l : PySem.W.OpenLaw) (w : World) (K : PySem.W.Frag) (CX : CXT) (k n : Nat) (x : Str) (mg : Str → Option Value) (fa : Addr) (h : Heap) : Prop :=
  ∃ (fd : FuncData) (tabs : List (Addr × Addr)) (sp : Sp), (∀ q ∈ tabs, h.get? q.2 = some { cls := .none, data := .fields #[] }) ∧ (∀ q ∈ tabs, K.lookup q.2 = none) ∧ (∀ q ∈ tabs, PySem.W.CodeHd h q.1 q.2) ∧ (∀ (s : Shared) (v : Value), BindsTo s fd ⟨[v], []⟩ [(x, v)]) ∧
    (∀ (H : Hp) (a : Addr) (ns : List Int), ns.length ≤ n → (∀ z ∈ ns, Builtin.Int.intBits z ≤ 1048576) → (∀ q ∈ tabs, H q.2 = some (.tbl #[])) → SqL K H a (ns.map V.int) → sp [.ref a] H (fun v _ => v = .bl true) fun _ _ _ => False) ∧
    ∀ base : Heap, K.In base → base.Ns mainGlobals mg → (∃ mm, base.Ns sysModules mm) → (∀ q ∈ tabs, TabB base mg q.1 q.2) → FnG l.prog w K mg base CX k fa fd [x] sp
theorem walk_guarded {l : PySem.W.OpenLaw} {n k : Nat} {q : Program} {loose : List Str} {XP : (Str → Option Value) → Heap → Prop} {YP : World → Heap → Prop} {d : DefRec} {K : Params → PySem.W.Frag} {CX : World → CXT} {x : Str}
    (imp : importsNone q = true) (most : l.most = some n) (fits : n ≤ sizeLine) (plain : d.params.defaults = []) (room : Room k callerA) (quiet : callerA.guards = some []) (kin : ∀ (w : World) (h : Heap), YP w h → (K w.params).In h)
    (F : ∀ (w : World) (mg : Str → Option Value) (fa : Addr) (h : Heap), YP w h → (K w.params).In h → h.Ns mainGlobals mg → mg d.name = some (.ref fa) →
      (∀ (y : Str) (c Pt : Addr), ((recsOf q).any fun e => e.name == y) = true → PySem.W.tabIn (K w.params) y = some (c, Pt) → PySem.W.CodeHd h c Pt ∧ h.get? Pt = some { cls := .none, data := .fields #[] }) → LawAtG l w (K w.params) (CX w) k n x mg fa h)
    (never : ∀ (w : World) (H : Hp) (s : Shared) (e : Value) (s' : Shared), CX w [] H s (fun _ _ _ => False) e s' → False) :
    PySem.W.WalkO q loose XP YP l.row.toRowW d [] (fun f vs => PySem.call f vs) := by
  refine Att.attach_callB most plain fun w s₀ s₁ mg mb fa o pm cd doc a vs ns G Y ho hd hcd hmg hobj hints hlen hbits hg => ?_
  have KX := kin w _ Y
  have tb : ∀ (y : Str) (c Pt : Addr), ((recsOf q).any fun e => e.name == y) = true → PySem.W.tabIn (K w.params) y = some (c, Pt) → PySem.W.CodeHd s₁.heap c Pt ∧ s₁.heap.get? Pt = some { cls := .none, data := .fields #[] } := fun y c Pt hy ht => by
    cases hf : (recsOf q).find? (fun e => e.name == y) with
    | none =>
      obtain ⟨e, he, h2⟩ := List.any_eq_true.mp hy
      exact absurd h2 (List.find?_eq_none.mp hf e he)
    | some dd => exact PySem.W.tab_of G.T KX hf ht
  obtain ⟨fd, tabs, sp, h1, h2, h3, h4, h5, h6⟩ := F w mg fa _ Y KX G.T.g hmg tb
  exact call_guarded KX G.T.g G.T.b G.T.builtins G.T.nolimit hg h1 h2 h3 G.T.bmain hobj hints (Nat.le_trans hlen fits) room quiet (let ⟨mm, h, _⟩ := (G.T.seer imp).mods; ⟨mm, h⟩) h6 h4 (fun H t s => h5 H a ns hlen hbits t s) fun H e s' => never w H s₁ e s'
end LamX

namespace RK
open PySem L2 LamX
/-! ### the law -/
def spLaw (K : PySem.W.Frag) (TT : List (Addr × Str)) : Sp := fun vs H Q _ => ∃ (a : Addr) (ns : List Int), vs = [.ref a] ∧ SqL K H a (ns.map V.int) ∧ ns.length ≤ 63 ∧ Tabs TT H ∧ ∀ H', Q (.bl true) H'
theorem SqL.extN {K : PySem.W.Frag} {H H' : Hp} {a : Addr} {xs : List V} (h : SqL K H a xs) (s : ExtN H H') : SqL K H' a xs := by
  rcases h with (h | ⟨o, h⟩) | h
  · exact .inl (.inl (s _ _ h (fun _ z => nomatch z)))
  · exact .inl (.inr ⟨o, s _ _ h (fun _ z => nomatch z)⟩)
  · exact .inr h
section
variable {P : Program} {w : World} {K : PySem.W.Frag} {mg : Str → Option Value} {base : Heap} {C fA : Addr} {TT : List (Addr × Str)}
theorem scLaw : FnScope ["script", "place", "draws", "turn", "names"] ["script"] (defScope sLaw) := ⟨rfl, rfl, rfl, by decide +kernel, rfl, by decide +kernel, by decide +kernel⟩
theorem ok_law {f fU fD fR fW fY fN fX fS : Addr} {fd fdU fdD fdR fdW fdY fdN fdX fdS : FuncData} (F : Fun K "law" "law" sLaw f fd) (B : B0 K mg) (gA : mg "_law_asked" = some (.ref fA))
    (GU : FnG P w K mg base CX0 8 fU fdU ["draws", "names", "ask", "things"] (spTurns C fA)) (bU : Binds K fdU ["draws", "names", "ask", "things"] []) (gU : mg "_law_in_turns" = some (.ref fU)) (kU9 : PySem.W.keepIn K (.ref fU) = true)
    (GD : FnOk P w K mg base CX0 1 fD fdD ["draws", "many"] spDraw) (bD : Binds K fdD ["draws", "many"] []) (gD : mg "_law_draw" = some (.ref fD)) (kD9 : PySem.W.keepIn K (.ref fD) = true)
    (GR : FnOk P w K mg base CX0 10 fR fdR ["path"] (spRefused C TT)) (bR : Binds K fdR ["path"] []) (gR : mg "_law_refused_right" = some (.ref fR)) (kR9 : PySem.W.keepIn K (.ref fR) = true)
    (GW : FnOk P w K mg base CX0 4 fW fdW ["draws", "names"] (spQMade C)) (bW : Binds K fdW ["draws", "names"] []) (gW : mg "_law_made" = some (.ref fW)) (kW9 : PySem.W.keepIn K (.ref fW) = true)
    (GY : FnOk P w K mg base CX0 6 fY fdY ["draws"] spGreatR) (bY : Binds K fdY ["draws"] []) (gY : mg "_law_great_right" = some (.ref fY)) (kY9 : PySem.W.keepIn K (.ref fY) = true)
    (GN : FnOk P w K mg base CX0 4 fN fdN ["draws", "most"] spAnyNames) (bN : Binds K fdN ["draws", "most"] []) (gN : mg "_law_any_names" = some (.ref fN)) (kN9 : PySem.W.keepIn K (.ref fN) = true)
    (GX : FnOk P w K mg base CX0 6 fX fdX ["draws"] spSmallR) (bX : Binds K fdX ["draws"] []) (gX : mg "_law_small_right" = some (.ref fX)) (kX9 : PySem.W.keepIn K (.ref fX) = true)
    (GS : FnOk P w K mg base CX0 1 fS fdS ["script", "place"] (spSpring K)) (bS : Binds K fdS ["script", "place"] []) (gS : mg "_law_source" = some (.ref fS)) (kS9 : PySem.W.keepIn K (.ref fS) = true) :
    FnG P w K mg base CX0 11 f fd ["script"] (spLaw K TT) := by
  refine F.okG scLaw (fun vs H Q E h => ?_) (fun cdv A outer s H vs Q E hr quiet h => ?_)
  · obtain ⟨sc, ns, rfl, _⟩ := h
    rfl
  · obtain ⟨sc, ns, rfl, hsc, hns, hT, k⟩ := h
    have hu := hu_of hr
    have hr1 : Room 1 _ := hr.mono (by decide)
    have hr4 : Room 4 _ := hr.mono (by decide)
    have hr6 : Room 6 _ := hr.mono (by decide)
    have hr8 : Room 8 _ := hr.mono (by decide)
    have hr10 : Room 10 _ := hr.mono (by decide)
    refine ⟨_, pss_cons (ps_for PassesOwn.never rfl (pi_range1 (by rfl) B.range (pa_cons (pe_op op_add pe_int (pe_callTy call_int1 (by rfl) B.int (by decide +kernel) (pa_cons (pe_cmpR op_gt (pe_callB call_len_seq (by rfl) B.len PySem.boot_len (pa_cons (pv 0) pa_nil)) pe_int (nomark _)) pa_nil))) pa_nil)) (pg_name (i := 1) scLaw.nd rfl (Or.inl rfl))
        (pss_cons (ps_set (i := 2) scLaw.nd rfl (Or.inl rfl) (pe_call GS hr1 (by rfl) gS kS9 bS .nil pass0 (pa_cons (pv 0) (pa_cons (pv 1) pa_nil))))
      (pss_cons (ps_for PassesOwn.never rfl (pi_range1 (by rfl) B.range (pa_cons pe_int pa_nil)) (pg_name (i := 3) scLaw.nd rfl (Or.inl rfl))
        (pss_one (ps_if (pt_not (pt_val (pe_call GX hr6 (by rfl) gX kX9 bX .nil pass0 (pa_cons (pv 2) pa_nil)))) (pss_one (ps_ret pe_bl)) (pss_nil))))
      (pss_cons (ps_set (i := 4) scLaw.nd rfl (Or.inl rfl) (pe_call GN hr4 (by rfl) gN kN9 bN .nil pass0 (pa_cons (pv 2) (pa_cons pe_int pa_nil))))
      (pss_cons (ps_if (PW.pt (pw_or (pt_not (pt_val (pe_call GY hr6 (by rfl) gY kY9 bY .nil pass0 (pa_cons (pv 2) pa_nil)))) (pw_or1 (pt_not (pt_val (pe_call GR hr10 (by rfl) gR kR9 bR .nil pass0 (pa_cons (pe_call GW hr4 (by rfl) gW kW9 bW .nil pass0 (pa_cons (pv 2) (pa_cons (pv 4) pa_nil))) pa_nil))))))) (pss_one (ps_ret pe_bl)) (pss_nil))
      (pss_one (ps_if (pt_not (pt_val (pe_callG GU hr8 quiet (by rfl) gU kU9 bU .nil pass0 (pa_cons (pv 2) (pa_cons (pv 4) (pa_cons (pe_glob (v := .ref fA) (by rfl) gA rfl) (pa_cons (pe_lst (pa_cons (pe_op op_add pe_int (pe_call GD hr1 (by rfl) gD kD9 bD .nil pass0 (pa_cons (pv 2) (pa_cons pe_int pa_nil)))) (pa_cons (pe_op op_add pe_int (pe_call GD hr1 (by rfl) gD kD9 bD .nil pass0 (pa_cons (pv 2) (pa_cons pe_int pa_nil)))) pa_nil))) pa_nil))))))) (pss_one (ps_ret pe_bl)) (pss_nil))))))))
      (pss_one (ps_ret pe_bl)), ?_⟩
    obtain ⟨R0, hR0, hR3⟩ : ∃ R0 : Nat, (2 + (if decide ((2 : Int) < ((ns.map V.int).length : Int)) = true then (1 : Int) else 0)) = (R0 : Int) ∧ R0 ≤ 3 := by
      split
      · exact ⟨3, rfl, by decide⟩
      · exact ⟨2, rfl, by decide⟩
    refine ⟨_, rfl, sc, _, rfl, .inl hsc, _, _, rfl, rfl, .inr ⟨_, rfl, _, _, rfl, rfl, R0, congrArg (fun i => [V.int i]) hR0, by omega, by omega, for_range (n := R0) (fun i σ G => ∃ w1 w2 w3 w4, σ = [some (.ref sc), w1, w2, w3, w4] ∧ ExtN H G ∧ Tabs TT G) ⟨none, none, none, none, rfl, ExtN.refl H, hT⟩ ?_ ?_⟩⟩
    · rintro i σ G hi ⟨w1, w2, w3, w4, rfl, eG, tG⟩
      refine ⟨_, rfl, _, rfl, sc, ns, i, by rw [Int.zero_add]; rfl, SqL.extN hsc eG, hns, by omega, fun a o G1 ha0 ha1 ho s1 => ?_⟩
      have sp1 : SpAt G1 a 0 := ⟨o, ha1, ho⟩
      refine ⟨2, rfl, by decide, by decide, for_range (n := 2) (fun j σ G' => ∃ w3, σ = [some (.ref sc), some (.int (0 + (i : Nat))), some (.ref a), w3, w4] ∧ SpAt G' a (100 * j) ∧ But a G1 G') ⟨w3, rfl, sp1, Same.but (Same.refl G1)⟩ ?_ ?_⟩
      · rintro j σ G' hj ⟨w3', rfl, spG, bG⟩
        exact ⟨_, rfl, a, 100 * j, rfl, spG, by omega, fun G'' sp'' b'' => ⟨true, rfl, iteF ⟨_, rfl, sp''.up (by omega), bG.trans b''⟩⟩⟩
      rintro σ G2 ⟨w3', rfl, sp2, b2⟩
      replace sp2 : SpAt G2 a 200 := sp2
      refine ⟨_, rfl, a, 5, 200, rfl, by decide, by decide, sp2, by decide, fun n zs G3 hnd hpool h2 h5 hn0 hn sp3 b3 => ?_⟩
      have han : a ≠ n := fun e => sp2.ne (by rw [e]; exact hn0)
      refine ⟨_, rfl, a, 200 + 21, rfl, sp3, by decide, fun G4 sp4 b4 => ⟨true, rfl, iteF ?_⟩⟩
      have hn4 := b4 _ _ (Ne.symm han) hn
      refine ⟨_, rfl, _, rfl, a, n, zs, 200 + 21 + 100, rfl, han, sp4, by decide, hn4, hnd, fun z hz => pool_names z (hpool z hz), fun z hz => pool_len z (hpool z hz), h2, by omega, fun p t G5 hp hpa hta sp5 b5 => ?_⟩
      have b15 : But a G1 G5 := b2.trans (b3.trans (b4.trans b5))
      have s05 : Same G G5 := But.fresh ((Same.but s1).trans b15) ha0
      have t5 := tG.ext s05
      have hn5 := b5 _ _ (Ne.symm han) hn4
      refine st_nil ⟨p, t, zs, rfl, hp, hnd, hpool, h2, by omega, t5, fun G6 en6 t6 => ⟨true, rfl, iteF ?_⟩⟩
      have sp6 : SpAt G6 a 322 := by
        obtain ⟨o, e, x, y, c, rfl, r⟩ := sp5
        exact ⟨_, en6 _ _ e nt_l, x, y, c, rfl, r⟩
      have hn6 := en6 _ _ hn5 nt_l
      refine ⟨_, rfl, _, rfl, _, rfl, a, 4, 322, rfl, by decide, by decide, sp6, by decide, fun r0 o0 hr00 hr01 ho0 => ⟨_, _, rfl, rfl, ?_⟩⟩
      refine ⟨_, rfl, a, 4, 323, rfl, by decide, by decide, ⟨o0, upd_same, ho0⟩, by decide, fun r1 o1 hr10 hr11 ho1 => ⟨_, _, rfl, rfl, ?_⟩⟩
      have b67 : But a G6 (upd (upd G6 a o0) a o1) := But.upd.trans But.upd
      have sp7 : SpAt (upd (upd G6 a o0) a o1) a 324 := ⟨o1, upd_same, ho1⟩
      generalize upd (upd G6 a o0) a o1 = G7 at b67 sp7 ⊢
      refine ⟨by show 2 ≤ sizeLine; decide, fun L hL => ?_⟩
      generalize hE : upd G7 L _ = G8
      have sG8 : Same G7 G8 := hE ▸ same_upd hL
      have eL := congrFun hE.symm L
      rw [upd_same] at eL
      clear hE
      have hLa : L ≠ a := fun e => sp7.ne (by rw [← e]; exact hL)
      refine ⟨a, n, L, zs, [1 + r0, 2 + r1], 324, rfl, han, hLa, sp7.same sG8, by decide, sG8 _ _ (b67 _ _ (Ne.symm han) hn6), eL, rfl, fun k hk => ?_, hnd, hpool, h2, h5, fun G9 sp9 b9 => ⟨true, rfl, iteF ?_⟩⟩
      · simp only [List.mem_cons, List.not_mem_nil, or_false] at hk
        omega
      have b69 : But a G6 G9 := b67.trans ((Same.but sG8).trans b9)
      refine ⟨_, _, _, _, rfl, eG.trans fun b u e nt => b69 _ _ (ne_of_none e ha0) (en6 _ _ (s05 _ _ e) nt), ?_⟩
      obtain ⟨ys, hya⟩ := sp6.lst
      exact tabs_keep t6 fun b o n1 _ e => b69 b o (fun z => n1 ys (Option.some.inj (e.symm.trans (by rw [z]; exact hya)))) e
    · rintro σ G ⟨w1, w2, w3, w4, rfl, eG, tG⟩
      exact k _

end
end RK

namespace RK
open PySem L2
/-! ### calls by name in any order -/
theorem vals_snoc {zs : List V} {us : List Value} (h : Vals zs us) {zs2 : List V} {us2 : List Value} (h2 : Vals zs2 us2) : Vals (zs ++ zs2) (us ++ us2) := by
  induction h with
  | nil => exact h2
  | cons a _ ih => exact .cons a ih
theorem vals_rev {zs : List V} {us : List Value} (h : Vals zs us) : Vals zs.reverse us.reverse := by
  induction h with
  | nil => exact .nil
  | cons a _ ih => rw [List.reverse_cons, List.reverse_cons]; exact vals_snoc ih (.cons a .nil)
theorem kb_countNotes {K : PySem.W.Frag} {f : Addr} {fd : FuncData} (F : Fun K "count_notes" "count_notes" sCountNotes f fd) : KBn K fd ["path", "most"] 0 ["most", "path"] (fun us ws => ws.reverse) (fun vs zs => zs.reverse) := by
  obtain ⟨oc, od, kV, doc, pm, an, cdv, ct, osl, rfl, lk, hcd⟩ := F.ex
  refine ⟨fun s us ws X l1 l2 => ?_, fun _ r2 => vals_rev r2⟩
  match us, ws, l1, l2 with
  | [], [w1, w2], _, _ => exact .of_eq rfl
theorem kb_countNoted {K : PySem.W.Frag} {f : Addr} {fd : FuncData} (F : Fun K "count_noted" "count_noted" sCountNoted f fd) : KBn K fd ["path", "most", "number"] 0 ["number", "most", "path"] (fun us ws => ws.reverse) (fun vs zs => zs.reverse) := by
  obtain ⟨oc, od, kV, doc, pm, an, cdv, ct, osl, rfl, lk, hcd⟩ := F.ex
  refine ⟨fun s us ws X l1 l2 => ?_, fun _ r2 => vals_rev r2⟩
  match us, ws, l1, l2 with
  | [], [w1, w2, w3], _, _ => exact .of_eq rfl
end RK

namespace RK
open PySem L2 LamX
theorem exm_self {K : PySem.W.Frag} {S : Addr} (h1 : PySem.W.subIn K (.ref S) (.type "BaseException") = some true) (h2 : PySem.W.isClsIn K S = true) (h3 : PySem.W.typeIn K (.ref S) = some (.type "type")) (h4 : PySem.W.subIn K (.ref S) (.ref S) = some true) :
    PySem.W.exmOne K (.ref S) (.ref S) = some true := by
  have e1 : (PySem.W.subIn K (.ref S) (.type "BaseException") == some true) = true := by rw [h1] <;> rfl
  have e2 : ((PySem.W.clsIn K S).isSome && PySem.W.typeIn K (.ref S) == some (.type "type")) = true := by
    have h2' : (PySem.W.clsIn K S).isSome = true := h2
    rw [h2', h3] <;> rfl
  show (if (PySem.W.subIn K (.ref S) (.type "BaseException") == some true) = true then (if ((PySem.W.clsIn K S).isSome && PySem.W.typeIn K (.ref S) == some (.type "type")) = true then PySem.W.subIn K (.ref S) (.ref S) else none) else none) = some true
  rw [if_pos e1, if_pos e2]
  exact h4
theorem isC_of {K : PySem.W.Frag} {S : Addr} (h2 : PySem.W.isClsIn K S = true) (h3 : PySem.W.typeIn K (.ref S) = some (.type "type")) : ((PySem.W.clsIn K S).isSome && PySem.W.typeIn K (.ref S) == some (.type "type")) = true := by
  have h2' : (PySem.W.clsIn K S).isSome = true := h2
  rw [h2', h3] <;> rfl
theorem cls_fn {K : PySem.W.Frag} {a : Addr} {o : Obj} (h : K.lookup a = some o) (t : o.cls = .type "function") : ∃ o, K.lookup a = some o ∧ o.cls = .type "function" := ⟨o, h, t⟩


theorem all_mk {P : Program} {w : World} {K : PySem.W.Frag} {h : Heap} {mg : Str → Option Value} {fa C f101 f102 f103 f104 f105 f106 f107 f108 f109 f110 f111 f112 f113 f114 f115 f116 f117 f118 f119 f120 f121 f122 f123 f124 f125 f126 f127 f128 f129 f130 f131 f132 f133 f134 f135 f136 f137 C50 C51 C52 C53 e50 e51 e52 e53 cda50 cc50 N50 cda51 cc51 N51 cda52 cc52 N52 cda53 cc53 N53 ct_136 Pt_136 : Addr} (X : K.In h) (G : h.Ns mainGlobals mg) (hfa : mg "law" = some (.ref fa))
    {od101 an101 od102 an102 od103 an103 od104 an104 od105 an105 od106 an106 od107 an107 od108 an108 od109 an109 od110 an110 od111 an111 od112 an112 od113 an113 od114 an114 od115 an115 od116 an116 od117 an117 od118 an118 od119 an119 od120 an120 od121 an121 od122 an122 od123 an123 od124 an124 od125 an125 od126 an126 od127 an127 od128 an128 od129 an129 od130 an130 od131 an131 od132 an132 od133 an133 od134 an134 od135 an135 od136 an136 od137 an137 odct_136 ode50 ane50 cld50 cdd50 dd50 ode51 ane51 cld51 cdd51 dd51 ode52 ane52 cld52 cdd52 dd52 ode53 ane53 cld53 cdd53 dd53 : Option Addr} {sl101 sl102 sl103 sl104 sl105 sl106 sl107 sl108 sl109 sl110 sl111 sl112 sl113 sl114 sl115 sl116 sl117 sl118 sl119 sl120 sl121 sl122 sl123 sl124 sl125 sl126 sl127 sl128 sl129 sl130 sl131 sl132 sl133 sl134 sl135 sl136 sl137 slct_136 sle50 csl50 ccs50 sle51 csl51 ccs51 sle52 csl52 ccs52 sle53 csl53 ccs53 : Array (Option Value)} {oc101 kV101 dc101 pm101 cd101 ct101 oc102 kV102 dc102 pm102 cd102 ct102 oc103 kV103 dc103 pm103 cd103 ct103 oc104 kV104 dc104 pm104 cd104 ct104 oc105 kV105 dc105 pm105 cd105 ct105 oc106 kV106 dc106 pm106 cd106 ct106 oc107 kV107 dc107 pm107 cd107 ct107 oc108 kV108 dc108 pm108 cd108 ct108 oc109 kV109 dc109 pm109 cd109 ct109 oc110 kV110 dc110 pm110 cd110 ct110 oc111 kV111 dc111 pm111 cd111 ct111 oc112 kV112 dc112 pm112 cd112 ct112 oc113 kV113 dc113 pm113 cd113 ct113 oc114 kV114 dc114 pm114 cd114 ct114 oc115 kV115 dc115 pm115 cd115 ct115 oc116 kV116 dc116 pm116 cd116 ct116 oc117 kV117 dc117 pm117 cd117 ct117 oc118 kV118 dc118 pm118 cd118 ct118 oc119 kV119 dc119 pm119 cd119 ct119 oc120 kV120 dc120 pm120 cd120 ct120 oc121 kV121 dc121 pm121 cd121 ct121 oc122 kV122 dc122 pm122 cd122 ct122 oc123 kV123 dc123 pm123 cd123 ct123 oc124 kV124 dc124 pm124 cd124 ct124 oc125 kV125 dc125 pm125 cd125 ct125 oc126 kV126 dc126 pm126 cd126 ct126 oc127 kV127 dc127 pm127 cd127 ct127 oc128 kV128 dc128 pm128 cd128 ct128 oc129 kV129 dc129 pm129 cd129 ct129 oc130 kV130 dc130 pm130 cd130 ct130 oc131 kV131 dc131 pm131 cd131 ct131 oc132 kV132 dc132 pm132 cd132 ct132 oc133 kV133 dc133 pm133 cd133 ct133 oc134 kV134 dc134 pm134 cd134 ct134 oc135 kV135 dc135 pm135 cd135 ct135 oc136 kV136 dc136 pm136 ct136 oc137 kV137 dc137 pm137 cd137 ct137 occt_136 oce50 dce50 pme50 cte50 cl50 ccl50 oce51 dce51 pme51 cte51 cl51 ccl51 oce52 dce52 pme52 cte52 cl52 ccl52 oce53 dce53 pme53 cte53 cl53 ccl53 : Value} {t1 t2 t3 : Tok}
    {vsct_136 : Array Value}
    {vs50 : Array Value} {file50 nm50 q50 : Str} {tf50 : Tok} {bs50 bm50 sub50 : List Value} {sn50 : List Str} {ab50 : Bool} {col50 : Option Bool} {m050 m150 m250 m350 m550 : Option Value}
    {vs51 : Array Value} {file51 nm51 q51 : Str} {tf51 : Tok} {bs51 bm51 sub51 : List Value} {sn51 : List Str} {ab51 : Bool} {col51 : Option Bool} {m051 m151 m251 m351 m551 : Option Value}
    {vs52 : Array Value} {file52 nm52 q52 : Str} {tf52 : Tok} {bs52 bm52 sub52 : List Value} {sn52 : List Str} {ab52 : Bool} {col52 : Option Bool} {m052 m152 m252 m352 m552 : Option Value}
    {vs53 : Array Value} {file53 nm53 q53 : Str} {tf53 : Tok} {bs53 bm53 sub53 : List Value} {sn53 : List Str} {ab53 : Bool} {col53 : Option Bool} {m053 m153 m253 m353 m553 : Option Value}
    (aC : PySem.W.nsIn K mainGlobals "Path" = some (some (.ref C)))
    (a50 : PySem.W.nsIn K mainGlobals "BadWalkers" = some (some (.ref C50)))
    (xi50C : PySem.W.findIn K (.ref C50) "__init__" = some (some (.ref e50)))
    (a51 : PySem.W.nsIn K mainGlobals "BadPath" = some (some (.ref C51)))
    (xi51C : PySem.W.findIn K (.ref C51) "__init__" = some (some (.ref e51)))
    (a52 : PySem.W.nsIn K mainGlobals "BadMost" = some (some (.ref C52)))
    (xi52C : PySem.W.findIn K (.ref C52) "__init__" = some (some (.ref e52)))
    (a53 : PySem.W.nsIn K mainGlobals "BadNumber" = some (some (.ref C53)))
    (xi53C : PySem.W.findIn K (.ref C53) "__init__" = some (some (.ref e53)))
    (a101 : PySem.W.nsIn K mainGlobals "is_integer" = some (some (.ref f101)))
    (l101 : K.lookup f101 = some ⟨oc101, od101, .func (PySem.W.fnOf "is_integer" "is_integer" (defArgs sIsInt) (defBody sIsInt) (defScope sIsInt) .none kV101 dc101 pm101 an101 cd101 ct101), sl101⟩)
    (c101 : PySem.W.codeIn K cd101 "is_integer" = true)
    (k101 : PySem.W.keepIn K (.ref f101) = true)
    (a102 : PySem.W.nsIn K mainGlobals "is_number" = some (some (.ref f102)))
    (l102 : K.lookup f102 = some ⟨oc102, od102, .func (PySem.W.fnOf "is_number" "is_number" (defArgs sIsNumber) (defBody sIsNumber) (defScope sIsNumber) .none kV102 dc102 pm102 an102 cd102 ct102), sl102⟩)
    (c102 : PySem.W.codeIn K cd102 "is_number" = true)
    (k102 : PySem.W.keepIn K (.ref f102) = true)
    (a103 : PySem.W.nsIn K mainGlobals "is_times" = some (some (.ref f103)))
    (l103 : K.lookup f103 = some ⟨oc103, od103, .func (PySem.W.fnOf "is_times" "is_times" (defArgs sIsTimes) (defBody sIsTimes) (defScope sIsTimes) .none kV103 dc103 pm103 an103 cd103 ct103), sl103⟩)
    (c103 : PySem.W.codeIn K cd103 "is_times" = true)
    (k103 : PySem.W.keepIn K (.ref f103) = true)
    (a104 : PySem.W.nsIn K mainGlobals "is_list" = some (some (.ref f104)))
    (l104 : K.lookup f104 = some ⟨oc104, od104, .func (PySem.W.fnOf "is_list" "is_list" (defArgs sIsList) (defBody sIsList) (defScope sIsList) .none kV104 dc104 pm104 an104 cd104 ct104), sl104⟩)
    (c104 : PySem.W.codeIn K cd104 "is_list" = true)
    (k104 : PySem.W.keepIn K (.ref f104) = true)
    (a105 : PySem.W.nsIn K mainGlobals "is_name" = some (some (.ref f105)))
    (l105 : K.lookup f105 = some ⟨oc105, od105, .func (PySem.W.fnOf "is_name" "is_name" (defArgs sIsName) (defBody sIsName) (defScope sIsName) .none kV105 dc105 pm105 an105 cd105 ct105), sl105⟩)
    (c105 : PySem.W.codeIn K cd105 "is_name" = true)
    (k105 : PySem.W.keepIn K (.ref f105) = true)
    (a106 : PySem.W.nsIn K mainGlobals "need_number" = some (some (.ref f106)))
    (l106 : K.lookup f106 = some ⟨oc106, od106, .func (PySem.W.fnOf "need_number" "need_number" (defArgs sNeedNum) (defBody sNeedNum) (defScope sNeedNum) .none kV106 dc106 pm106 an106 cd106 ct106), sl106⟩)
    (c106 : PySem.W.codeIn K cd106 "need_number" = true)
    (k106 : PySem.W.keepIn K (.ref f106) = true)
    (a107 : PySem.W.nsIn K mainGlobals "choose" = some (some (.ref f107)))
    (l107 : K.lookup f107 = some ⟨oc107, od107, .func (PySem.W.fnOf "choose" "choose" (defArgs sChoose) (defBody sChoose) (defScope sChoose) .none kV107 dc107 pm107 an107 cd107 ct107), sl107⟩)
    (c107 : PySem.W.codeIn K cd107 "choose" = true)
    (k107 : PySem.W.keepIn K (.ref f107) = true)
    (a108 : PySem.W.nsIn K mainGlobals "product_of" = some (some (.ref f108)))
    (l108 : K.lookup f108 = some ⟨oc108, od108, .func (PySem.W.fnOf "product_of" "product_of" (defArgs sProduct) (defBody sProduct) (defScope sProduct) .none kV108 dc108 pm108 an108 cd108 ct108), sl108⟩)
    (c108 : PySem.W.codeIn K cd108 "product_of" = true)
    (k108 : PySem.W.keepIn K (.ref f108) = true)
    (a109 : PySem.W.nsIn K mainGlobals "power" = some (some (.ref f109)))
    (l109 : K.lookup f109 = some ⟨oc109, od109, .func (PySem.W.fnOf "power" "power" (defArgs sPower) (defBody sPower) (defScope sPower) .none kV109 dc109 pm109 an109 cd109 ct109), sl109⟩)
    (c109 : PySem.W.codeIn K cd109 "power" = true)
    (k109 : PySem.W.keepIn K (.ref f109) = true)
    (a110 : PySem.W.nsIn K mainGlobals "need_most" = some (some (.ref f110)))
    (l110 : K.lookup f110 = some ⟨oc110, od110, .func (PySem.W.fnOf "need_most" "need_most" (defArgs sNeedMost) (defBody sNeedMost) (defScope sNeedMost) .none kV110 dc110 pm110 an110 cd110 ct110), sl110⟩)
    (c110 : PySem.W.codeIn K cd110 "need_most" = true)
    (k110 : PySem.W.keepIn K (.ref f110) = true)
    (a111 : PySem.W.findIn K (.ref C) "__init__" = some (some (.ref f111)))
    (i111 : PySem.W.isFn K (.ref f111) = true)
    (l111 : K.lookup f111 = some ⟨oc111, od111, .func (PySem.W.fnOf "__init__" "Path.__init__" (defArgs sInit) (defBody sInit) (defScope sInit) .none kV111 dc111 pm111 an111 cd111 ct111), sl111⟩)
    (c111 : PySem.W.codeIn K cd111 "Path.__init__" = true)
    (k111 : PySem.W.keepIn K (.ref f111) = true)
    (a112 : PySem.W.findIn K (.ref C) "walkers" = some (some (.ref f112)))
    (i112 : PySem.W.isFn K (.ref f112) = true)
    (l112 : K.lookup f112 = some ⟨oc112, od112, .func (PySem.W.fnOf "walkers" "Path.walkers" (defArgs sWalkers) (defBody sWalkers) (defScope sWalkers) .none kV112 dc112 pm112 an112 cd112 ct112), sl112⟩)
    (c112 : PySem.W.codeIn K cd112 "Path.walkers" = true)
    (k112 : PySem.W.keepIn K (.ref f112) = true)
    (a113 : PySem.W.findIn K (.ref C) "__eq__" = some (some (.ref f113)))
    (i113 : PySem.W.isFn K (.ref f113) = true)
    (l113 : K.lookup f113 = some ⟨oc113, od113, .func (PySem.W.fnOf "__eq__" "Path.__eq__" (defArgs sEq) (defBody sEq) (defScope sEq) .none kV113 dc113 pm113 an113 cd113 ct113), sl113⟩)
    (c113 : PySem.W.codeIn K cd113 "Path.__eq__" = true)
    (k113 : PySem.W.keepIn K (.ref f113) = true)
    (a114 : PySem.W.nsIn K mainGlobals "walkers_of" = some (some (.ref f114)))
    (l114 : K.lookup f114 = some ⟨oc114, od114, .func (PySem.W.fnOf "walkers_of" "walkers_of" (defArgs sWalkersOf) (defBody sWalkersOf) (defScope sWalkersOf) .none kV114 dc114 pm114 an114 cd114 ct114), sl114⟩)
    (c114 : PySem.W.codeIn K cd114 "walkers_of" = true)
    (k114 : PySem.W.keepIn K (.ref f114) = true)
    (a115 : PySem.W.nsIn K mainGlobals "count_notes" = some (some (.ref f115)))
    (l115 : K.lookup f115 = some ⟨oc115, od115, .func (PySem.W.fnOf "count_notes" "count_notes" (defArgs sCountNotes) (defBody sCountNotes) (defScope sCountNotes) .none kV115 dc115 pm115 an115 cd115 ct115), sl115⟩)
    (c115 : PySem.W.codeIn K cd115 "count_notes" = true)
    (k115 : PySem.W.keepIn K (.ref f115) = true)
    (a116 : PySem.W.nsIn K mainGlobals "count_noted" = some (some (.ref f116)))
    (l116 : K.lookup f116 = some ⟨oc116, od116, .func (PySem.W.fnOf "count_noted" "count_noted" (defArgs sCountNoted) (defBody sCountNoted) (defScope sCountNoted) .none kV116 dc116 pm116 an116 cd116 ct116), sl116⟩)
    (c116 : PySem.W.codeIn K cd116 "count_noted" = true)
    (k116 : PySem.W.keepIn K (.ref f116) = true)
    (a117 : PySem.W.nsIn K mainGlobals "differences" = some (some (.ref f117)))
    (l117 : K.lookup f117 = some ⟨oc117, od117, .func (PySem.W.fnOf "differences" "differences" (defArgs sDiffs) (defBody sDiffs) (defScope sDiffs) .none kV117 dc117 pm117 an117 cd117 ct117), sl117⟩)
    (c117 : PySem.W.codeIn K cd117 "differences" = true)
    (k117 : PySem.W.keepIn K (.ref f117) = true)
    (a118 : PySem.W.nsIn K mainGlobals "_law_source" = some (some (.ref f118)))
    (l118 : K.lookup f118 = some ⟨oc118, od118, .func (PySem.W.fnOf "_law_source" "_law_source" (defArgs sSource) (defBody sSource) (defScope sSource) .none kV118 dc118 pm118 an118 cd118 ct118), sl118⟩)
    (c118 : PySem.W.codeIn K cd118 "_law_source" = true)
    (k118 : PySem.W.keepIn K (.ref f118) = true)
    (a119 : PySem.W.nsIn K mainGlobals "_law_draw" = some (some (.ref f119)))
    (l119 : K.lookup f119 = some ⟨oc119, od119, .func (PySem.W.fnOf "_law_draw" "_law_draw" (defArgs sDraw) (defBody sDraw) (defScope sDraw) .none kV119 dc119 pm119 an119 cd119 ct119), sl119⟩)
    (c119 : PySem.W.codeIn K cd119 "_law_draw" = true)
    (k119 : PySem.W.keepIn K (.ref f119) = true)
    (a120 : PySem.W.nsIn K mainGlobals "_law_pick" = some (some (.ref f120)))
    (l120 : K.lookup f120 = some ⟨oc120, od120, .func (PySem.W.fnOf "_law_pick" "_law_pick" (defArgs sPick) (defBody sPick) (defScope sPick) .none kV120 dc120 pm120 an120 cd120 ct120), sl120⟩)
    (c120 : PySem.W.codeIn K cd120 "_law_pick" = true)
    (k120 : PySem.W.keepIn K (.ref f120) = true)
    (a121 : PySem.W.nsIn K mainGlobals "_law_mixed" = some (some (.ref f121)))
    (l121 : K.lookup f121 = some ⟨oc121, od121, .func (PySem.W.fnOf "_law_mixed" "_law_mixed" (defArgs sMixed) (defBody sMixed) (defScope sMixed) .none kV121 dc121 pm121 an121 cd121 ct121), sl121⟩)
    (c121 : PySem.W.codeIn K cd121 "_law_mixed" = true)
    (k121 : PySem.W.keepIn K (.ref f121) = true)
    (a122 : PySem.W.nsIn K mainGlobals "_law_same" = some (some (.ref f122)))
    (l122 : K.lookup f122 = some ⟨oc122, od122, .func (PySem.W.fnOf "_law_same" "_law_same" (defArgs sSame) (defBody sSame) (defScope sSame) .none kV122 dc122 pm122 an122 cd122 ct122), sl122⟩)
    (c122 : PySem.W.codeIn K cd122 "_law_same" = true)
    (k122 : PySem.W.keepIn K (.ref f122) = true)
    (a123 : PySem.W.nsIn K mainGlobals "_law_loose" = some (some (.ref f123)))
    (l123 : K.lookup f123 = some ⟨oc123, od123, .func (PySem.W.fnOf "_law_loose" "_law_loose" (defArgs sLoose) (defBody sLoose) (defScope sLoose) .none kV123 dc123 pm123 an123 cd123 ct123), sl123⟩)
    (c123 : PySem.W.codeIn K cd123 "_law_loose" = true)
    (k123 : PySem.W.keepIn K (.ref f123) = true)
    (a124 : PySem.W.nsIn K mainGlobals "_law_names" = some (some (.ref f124)))
    (l124 : K.lookup f124 = some ⟨oc124, od124, .func (PySem.W.fnOf "_law_names" "_law_names" (defArgs sFewNames) (defBody sFewNames) (defScope sFewNames) .none kV124 dc124 pm124 an124 cd124 ct124), sl124⟩)
    (c124 : PySem.W.codeIn K cd124 "_law_names" = true)
    (k124 : PySem.W.keepIn K (.ref f124) = true)
    (a125 : PySem.W.nsIn K mainGlobals "_law_any_names" = some (some (.ref f125)))
    (l125 : K.lookup f125 = some ⟨oc125, od125, .func (PySem.W.fnOf "_law_any_names" "_law_any_names" (defArgs sNames) (defBody sNames) (defScope sNames) .none kV125 dc125 pm125 an125 cd125 ct125), sl125⟩)
    (c125 : PySem.W.codeIn K cd125 "_law_any_names" = true)
    (k125 : PySem.W.keepIn K (.ref f125) = true)
    (a126 : PySem.W.nsIn K mainGlobals "_law_made" = some (some (.ref f126)))
    (l126 : K.lookup f126 = some ⟨oc126, od126, .func (PySem.W.fnOf "_law_made" "_law_made" (defArgs sWMade) (defBody sWMade) (defScope sWMade) .none kV126 dc126 pm126 an126 cd126 ct126), sl126⟩)
    (c126 : PySem.W.codeIn K cd126 "_law_made" = true)
    (k126 : PySem.W.keepIn K (.ref f126) = true)
    (a127 : PySem.W.nsIn K mainGlobals "_law_in_turns" = some (some (.ref f127)))
    (l127 : K.lookup f127 = some ⟨oc127, od127, .func (PySem.W.fnOf "_law_in_turns" "_law_in_turns" (defArgs sInTurns) (defBody sInTurns) (defScope sInTurns) .none kV127 dc127 pm127 an127 cd127 ct127), sl127⟩)
    (c127 : PySem.W.codeIn K cd127 "_law_in_turns" = true)
    (k127 : PySem.W.keepIn K (.ref f127) = true)
    (a128 : PySem.W.nsIn K mainGlobals "_law_fault" = some (some (.ref f128)))
    (l128 : K.lookup f128 = some ⟨oc128, od128, .func (PySem.W.fnOf "_law_fault" "_law_fault" (defArgs sWFault) (defBody sWFault) (defScope sWFault) .none kV128 dc128 pm128 an128 cd128 ct128), sl128⟩)
    (c128 : PySem.W.codeIn K cd128 "_law_fault" = true)
    (k128 : PySem.W.keepIn K (.ref f128) = true)
    (a129 : PySem.W.nsIn K mainGlobals "_law_all_lists" = some (some (.ref f129)))
    (l129 : K.lookup f129 = some ⟨oc129, od129, .func (PySem.W.fnOf "_law_all_lists" "_law_all_lists" (defArgs sAllLists) (defBody sAllLists) (defScope sAllLists) .none kV129 dc129 pm129 an129 cd129 ct129), sl129⟩)
    (c129 : PySem.W.codeIn K cd129 "_law_all_lists" = true)
    (k129 : PySem.W.keepIn K (.ref f129) = true)
    (a130 : PySem.W.nsIn K mainGlobals "_law_met" = some (some (.ref f130)))
    (l130 : K.lookup f130 = some ⟨oc130, od130, .func (PySem.W.fnOf "_law_met" "_law_met" (defArgs sMet) (defBody sMet) (defScope sMet) .none kV130 dc130 pm130 an130 cd130 ct130), sl130⟩)
    (c130 : PySem.W.codeIn K cd130 "_law_met" = true)
    (k130 : PySem.W.keepIn K (.ref f130) = true)
    (a131 : PySem.W.nsIn K mainGlobals "_law_right_lists" = some (some (.ref f131)))
    (l131 : K.lookup f131 = some ⟨oc131, od131, .func (PySem.W.fnOf "_law_right_lists" "_law_right_lists" (defArgs sRightLs) (defBody sRightLs) (defScope sRightLs) .none kV131 dc131 pm131 an131 cd131 ct131), sl131⟩)
    (c131 : PySem.W.codeIn K cd131 "_law_right_lists" = true)
    (k131 : PySem.W.keepIn K (.ref f131) = true)
    (a132 : PySem.W.nsIn K mainGlobals "_law_power" = some (some (.ref f132)))
    (l132 : K.lookup f132 = some ⟨oc132, od132, .func (PySem.W.fnOf "_law_power" "_law_power" (defArgs sWPower) (defBody sWPower) (defScope sWPower) .none kV132 dc132 pm132 an132 cd132 ct132), sl132⟩)
    (c132 : PySem.W.codeIn K cd132 "_law_power" = true)
    (k132 : PySem.W.keepIn K (.ref f132) = true)
    (a133 : PySem.W.nsIn K mainGlobals "_law_small_right" = some (some (.ref f133)))
    (l133 : K.lookup f133 = some ⟨oc133, od133, .func (PySem.W.fnOf "_law_small_right" "_law_small_right" (defArgs sSmallR) (defBody sSmallR) (defScope sSmallR) .none kV133 dc133 pm133 an133 cd133 ct133), sl133⟩)
    (c133 : PySem.W.codeIn K cd133 "_law_small_right" = true)
    (k133 : PySem.W.keepIn K (.ref f133) = true)
    (a134 : PySem.W.nsIn K mainGlobals "_law_great_right" = some (some (.ref f134)))
    (l134 : K.lookup f134 = some ⟨oc134, od134, .func (PySem.W.fnOf "_law_great_right" "_law_great_right" (defArgs sGreatR) (defBody sGreatR) (defScope sGreatR) .none kV134 dc134 pm134 an134 cd134 ct134), sl134⟩)
    (c134 : PySem.W.codeIn K cd134 "_law_great_right" = true)
    (k134 : PySem.W.keepIn K (.ref f134) = true)
    (a135 : PySem.W.nsIn K mainGlobals "_law_asked" = some (some (.ref f135)))
    (l135 : K.lookup f135 = some ⟨oc135, od135, .func (PySem.W.fnOf "_law_asked" "_law_asked" (defArgs sAsked) (defBody sAsked) (defScope sAsked) .none kV135 dc135 pm135 an135 cd135 ct135), sl135⟩)
    (c135 : PySem.W.codeIn K cd135 "_law_asked" = true)
    (k135 : PySem.W.keepIn K (.ref f135) = true)
    (a136 : PySem.W.nsIn K mainGlobals "_law_refused_right" = some (some (.ref f136)))
    (l136 : K.lookup f136 = some ⟨oc136, od136, .func (PySem.W.fnOf "_law_refused_right" "_law_refused_right" (defArgs sRefused) (defBody sRefused) (defScope sRefused) .none kV136 dc136 pm136 an136 (.ref ct_136) ct136), sl136⟩)
    (c136 : PySem.W.codeIn K (.ref ct_136) "_law_refused_right" = true)
    (k136 : PySem.W.keepIn K (.ref f136) = true)
    (a137 : PySem.W.nsIn K mainGlobals "law" = some (some (.ref f137)))
    (l137 : K.lookup f137 = some ⟨oc137, od137, .func (PySem.W.fnOf "law" "law" (defArgs sLaw) (defBody sLaw) (defScope sLaw) .none kV137 dc137 pm137 an137 cd137 ct137), sl137⟩)
    (c137 : PySem.W.codeIn K cd137 "law" = true)
    (k137 : PySem.W.keepIn K (.ref f137) = true)
    (lct_136 : K.lookup ct_136 = some ⟨occt_136, odct_136, .fields vsct_136, slct_136⟩)
    (v11_136 : vsct_136[11]? = some (.ref Pt_136))
    (tbn_136 : K.lookup Pt_136 = none)
    (pg : PySem.W.plainGet K C Str.empty = true)
    (hd : PySem.W.hasDictIn K C = true)
    (po : PySem.W.plainOver K C = true)
    (sa : PySem.W.findIn K (.ref C) "__setattr__" = some (some (.builtin "object.__setattr__")))
    (mk : PySem.W.makesIn K C = true)
    (kc : PySem.W.keepIn K (.ref C) = true)
    (nN : PySem.W.findIn K (.ref C) "_names" = some none)
    (cls1 : PySem.W.findIn K (.ref C) "__class__" = some (some (.builtin "object.__class__")))
    (spec : PySem.W.specialIn K (.builtin "object.__class__") "__get__" = some (some (.builtin "getset_descriptor.__get__")))
    (tak : PySem.W.takesIn K (.builtin "object.__class__") = some true)
    (mo : PySem.W.mroIn K C (.type "object") = some true)
    (icC : PySem.W.isClsIn K C = true)
    (tyC : PySem.W.typeIn K (.ref C) = some (.type "type"))
    (neF : PySem.W.findIn K (.ref C) "__ne__" = some (some (.builtin "object.__ne__")))
    (z_isinstance : PySem.W.nsIn K mainGlobals "isinstance" = some none)
    (z_list : PySem.W.nsIn K mainGlobals "list" = some none)
    (z_tuple : PySem.W.nsIn K mainGlobals "tuple" = some none)
    (z_str : PySem.W.nsIn K mainGlobals "str" = some none)
    (z_len : PySem.W.nsIn K mainGlobals "len" = some none)
    (z_all : PySem.W.nsIn K mainGlobals "all" = some none)
    (z_any : PySem.W.nsIn K mainGlobals "any" = some none)
    (z_enumerate : PySem.W.nsIn K mainGlobals "enumerate" = some none)
    (z_int : PySem.W.nsIn K mainGlobals "int" = some none)
    (z_range : PySem.W.nsIn K mainGlobals "range" = some none)
    (z_dict : PySem.W.nsIn K mainGlobals "dict" = some none)
    (z_bool : PySem.W.nsIn K mainGlobals "bool" = some none)
    (z_zip : PySem.W.nsIn K mainGlobals "zip" = some none)
    (z_sum : PySem.W.nsIn K mainGlobals "sum" = some none)
    (z_sorted : PySem.W.nsIn K mainGlobals "sorted" = some none)
    (z_repr : PySem.W.nsIn K mainGlobals "repr" = some none)
    (v1 : PySem.W.nsIn K mainGlobals "FIRST_SIGNS" = some (some (.str "abcdefghijklmnopqrstuvwxyz" t1)))
    (v2 : PySem.W.nsIn K mainGlobals "LATER_SIGNS" = some (some (.str "abcdefghijklmnopqrstuvwxyz0123456789" t2)))
    (v3 : PySem.W.nsIn K mainGlobals "LONGEST_NAME" = some (some (.int 8 t3)))
    (xtp : PySem.W.nsIn K cStatics "thirdparty.any" = some none)
    (xgS : PySem.W.nsIn K mainGlobals "super" = some none)
    (xtop : (P.main.scope.names.lookup ("super" : Str)).isSome = false)
    (xL50 : K.lookup C50 = some (excClassObj nm50 q50 C50 N50 bs50 bm50 true sn50 sub50 ab50 col50 dd50 m050 m150 m250 m350 m550 "ValueError.__new__"))
    (xR50 : PySem.HandSPX.refsVE bm50 = true)
    (xi50 : PySem.W.excInitIn K C50 [.type "ValueError", .type "Exception", .type "BaseException", .type "object"] "ValueError.__new__" = true)
    (xs50 : PySem.W.ks_superIn K C50 C50 "__init__" = some (some (.builtin "ValueError.__init__")))
    (xV50 : PySem.W.subIn K (.ref C50) (.type "ValueError") = some true)
    (xM50 : PySem.W.mroIn K C50 (.ref C50) = some true)
    (xsa50 : PySem.W.findIn K (.ref C50) "__setattr__" = some (some (.builtin "object.__setattr__")))
    (xga50 : PySem.W.findIn K (.ref C50) "__getattribute__" = some (some (.builtin "BaseException.__getattribute__")))
    (xgg50 : PySem.W.findIn K (.ref C50) "__getattr__" = some none)
    (xno50 : PySem.W.findIn K (.ref C50) "index" = some none)
    (xtC50 : PySem.W.typeIn K (.ref e50) = some (.type "function"))
    (xkC50 : PySem.W.keepIn K (.ref C50) = true)
    (xeC50 : PySem.W.subIn K (.ref C50) (.type "BaseException") = some true)
    (xyC50 : PySem.W.typeIn K (.ref C50) = some (.type "type"))
    (xhC50 : PySem.W.hasDictIn K C50 = true)
    (xic50 : PySem.W.isClsIn K C50 = true)
    (xss50 : PySem.W.subIn K (.ref C50) (.ref C50) = some true)
    (le50 : K.lookup e50 = some ⟨oce50, ode50, .func (PySem.W.ksFn "__init__" "BadWalkers.__init__" (PySem.XW.xA "index" ⟨7, 17, 7, 21⟩ ⟨7, 23, 7, 28⟩) [PySem.XW.xB1 "no list of two or more unlike names" ⟨8, 8, 8, 13⟩ ⟨8, 8, 8, 15⟩ ⟨8, 8, 8, 24⟩ ⟨8, 25, 8, 62⟩ ⟨8, 8, 8, 63⟩ ⟨8, 8, 8, 63⟩, PySem.XW.xB2 "index" ⟨9, 8, 9, 12⟩ ⟨9, 8, 9, 18⟩ ⟨9, 21, 9, 26⟩ ⟨9, 8, 9, 26⟩] (PySem.XW.xS "index") .none .none dce50 pme50 ane50 (.ref cda50) cte50 cc50), sle50⟩)
    (ce50 : PySem.W.codeIn K (.ref cda50) "BadWalkers.__init__" = true)
    (x150 : K.lookup cda50 = some ⟨ccl50, cdd50, .fields vs50, ccs50⟩)
    (x250 : vs50[2]? = some (.str file50 tf50))
    (x350 : ((P.main.file : Str) == file50) = true)
    (x450 : K.lookup cc50 = some ⟨cl50, cld50, .cell (some (.ref C50)), csl50⟩)
    (xL51 : K.lookup C51 = some (excClassObj nm51 q51 C51 N51 bs51 bm51 true sn51 sub51 ab51 col51 dd51 m051 m151 m251 m351 m551 "ValueError.__new__"))
    (xR51 : PySem.HandSPX.refsVE bm51 = true)
    (xi51 : PySem.W.excInitIn K C51 [.type "ValueError", .type "Exception", .type "BaseException", .type "object"] "ValueError.__new__" = true)
    (xs51 : PySem.W.ks_superIn K C51 C51 "__init__" = some (some (.builtin "ValueError.__init__")))
    (xV51 : PySem.W.subIn K (.ref C51) (.type "ValueError") = some true)
    (xM51 : PySem.W.mroIn K C51 (.ref C51) = some true)
    (xsa51 : PySem.W.findIn K (.ref C51) "__setattr__" = some (some (.builtin "object.__setattr__")))
    (xga51 : PySem.W.findIn K (.ref C51) "__getattribute__" = some (some (.builtin "BaseException.__getattribute__")))
    (xgg51 : PySem.W.findIn K (.ref C51) "__getattr__" = some none)
    (xno51 : PySem.W.findIn K (.ref C51) "thing" = some none)
    (xtC51 : PySem.W.typeIn K (.ref e51) = some (.type "function"))
    (xkC51 : PySem.W.keepIn K (.ref C51) = true)
    (xeC51 : PySem.W.subIn K (.ref C51) (.type "BaseException") = some true)
    (xyC51 : PySem.W.typeIn K (.ref C51) = some (.type "type"))
    (xhC51 : PySem.W.hasDictIn K C51 = true)
    (xic51 : PySem.W.isClsIn K C51 = true)
    (xss51 : PySem.W.subIn K (.ref C51) (.ref C51) = some true)
    (le51 : K.lookup e51 = some ⟨oce51, ode51, .func (PySem.W.ksFn "__init__" "BadPath.__init__" (PySem.XW.xA "thing" ⟨12, 17, 12, 21⟩ ⟨12, 23, 12, 28⟩) [PySem.XW.xB1 "no path" ⟨13, 8, 13, 13⟩ ⟨13, 8, 13, 15⟩ ⟨13, 8, 13, 24⟩ ⟨13, 25, 13, 34⟩ ⟨13, 8, 13, 35⟩ ⟨13, 8, 13, 35⟩, PySem.XW.xB2 "thing" ⟨14, 8, 14, 12⟩ ⟨14, 8, 14, 18⟩ ⟨14, 21, 14, 26⟩ ⟨14, 8, 14, 26⟩] (PySem.XW.xS "thing") .none .none dce51 pme51 ane51 (.ref cda51) cte51 cc51), sle51⟩)
    (ce51 : PySem.W.codeIn K (.ref cda51) "BadPath.__init__" = true)
    (x151 : K.lookup cda51 = some ⟨ccl51, cdd51, .fields vs51, ccs51⟩)
    (x251 : vs51[2]? = some (.str file51 tf51))
    (x351 : ((P.main.file : Str) == file51) = true)
    (x451 : K.lookup cc51 = some ⟨cl51, cld51, .cell (some (.ref C51)), csl51⟩)
    (xL52 : K.lookup C52 = some (excClassObj nm52 q52 C52 N52 bs52 bm52 true sn52 sub52 ab52 col52 dd52 m052 m152 m252 m352 m552 "ValueError.__new__"))
    (xR52 : PySem.HandSPX.refsVE bm52 = true)
    (xi52 : PySem.W.excInitIn K C52 [.type "ValueError", .type "Exception", .type "BaseException", .type "object"] "ValueError.__new__" = true)
    (xs52 : PySem.W.ks_superIn K C52 C52 "__init__" = some (some (.builtin "ValueError.__init__")))
    (xV52 : PySem.W.subIn K (.ref C52) (.type "ValueError") = some true)
    (xM52 : PySem.W.mroIn K C52 (.ref C52) = some true)
    (xsa52 : PySem.W.findIn K (.ref C52) "__setattr__" = some (some (.builtin "object.__setattr__")))
    (xga52 : PySem.W.findIn K (.ref C52) "__getattribute__" = some (some (.builtin "BaseException.__getattribute__")))
    (xgg52 : PySem.W.findIn K (.ref C52) "__getattr__" = some none)
    (xno52 : PySem.W.findIn K (.ref C52) "most" = some none)
    (xtC52 : PySem.W.typeIn K (.ref e52) = some (.type "function"))
    (xkC52 : PySem.W.keepIn K (.ref C52) = true)
    (xeC52 : PySem.W.subIn K (.ref C52) (.type "BaseException") = some true)
    (xyC52 : PySem.W.typeIn K (.ref C52) = some (.type "type"))
    (xhC52 : PySem.W.hasDictIn K C52 = true)
    (xic52 : PySem.W.isClsIn K C52 = true)
    (xss52 : PySem.W.subIn K (.ref C52) (.ref C52) = some true)
    (le52 : K.lookup e52 = some ⟨oce52, ode52, .func (PySem.W.ksFn "__init__" "BadMost.__init__" (PySem.XW.xA "most" ⟨22, 17, 22, 21⟩ ⟨22, 23, 22, 27⟩) [PySem.XW.xB1 "no integer from 1 on" ⟨23, 8, 23, 13⟩ ⟨23, 8, 23, 15⟩ ⟨23, 8, 23, 24⟩ ⟨23, 25, 23, 47⟩ ⟨23, 8, 23, 48⟩ ⟨23, 8, 23, 48⟩, PySem.XW.xB2 "most" ⟨24, 8, 24, 12⟩ ⟨24, 8, 24, 17⟩ ⟨24, 20, 24, 24⟩ ⟨24, 8, 24, 24⟩] (PySem.XW.xS "most") .none .none dce52 pme52 ane52 (.ref cda52) cte52 cc52), sle52⟩)
    (ce52 : PySem.W.codeIn K (.ref cda52) "BadMost.__init__" = true)
    (x152 : K.lookup cda52 = some ⟨ccl52, cdd52, .fields vs52, ccs52⟩)
    (x252 : vs52[2]? = some (.str file52 tf52))
    (x352 : ((P.main.file : Str) == file52) = true)
    (x452 : K.lookup cc52 = some ⟨cl52, cld52, .cell (some (.ref C52)), csl52⟩)
    (xL53 : K.lookup C53 = some (excClassObj nm53 q53 C53 N53 bs53 bm53 true sn53 sub53 ab53 col53 dd53 m053 m153 m253 m353 m553 "ValueError.__new__"))
    (xR53 : PySem.HandSPX.refsVE bm53 = true)
    (xi53 : PySem.W.excInitIn K C53 [.type "ValueError", .type "Exception", .type "BaseException", .type "object"] "ValueError.__new__" = true)
    (xs53 : PySem.W.ks_superIn K C53 C53 "__init__" = some (some (.builtin "ValueError.__init__")))
    (xV53 : PySem.W.subIn K (.ref C53) (.type "ValueError") = some true)
    (xM53 : PySem.W.mroIn K C53 (.ref C53) = some true)
    (xsa53 : PySem.W.findIn K (.ref C53) "__setattr__" = some (some (.builtin "object.__setattr__")))
    (xga53 : PySem.W.findIn K (.ref C53) "__getattribute__" = some (some (.builtin "BaseException.__getattribute__")))
    (xgg53 : PySem.W.findIn K (.ref C53) "__getattr__" = some none)
    (xno53 : PySem.W.findIn K (.ref C53) "number" = some none)
    (xtC53 : PySem.W.typeIn K (.ref e53) = some (.type "function"))
    (xkC53 : PySem.W.keepIn K (.ref C53) = true)
    (xeC53 : PySem.W.subIn K (.ref C53) (.type "BaseException") = some true)
    (xyC53 : PySem.W.typeIn K (.ref C53) = some (.type "type"))
    (xhC53 : PySem.W.hasDictIn K C53 = true)
    (xic53 : PySem.W.isClsIn K C53 = true)
    (xss53 : PySem.W.subIn K (.ref C53) (.ref C53) = some true)
    (le53 : K.lookup e53 = some ⟨oce53, ode53, .func (PySem.W.ksFn "__init__" "BadNumber.__init__" (PySem.XW.xA "number" ⟨17, 17, 17, 21⟩ ⟨17, 23, 17, 29⟩) [PySem.XW.xB1 "no such number" ⟨18, 8, 18, 13⟩ ⟨18, 8, 18, 15⟩ ⟨18, 8, 18, 24⟩ ⟨18, 25, 18, 41⟩ ⟨18, 8, 18, 42⟩ ⟨18, 8, 18, 42⟩, PySem.XW.xB2 "number" ⟨19, 8, 19, 12⟩ ⟨19, 8, 19, 19⟩ ⟨19, 22, 19, 28⟩ ⟨19, 8, 19, 28⟩] (PySem.XW.xS "number") .none .none dce53 pme53 ane53 (.ref cda53) cte53 cc53), sle53⟩)
    (ce53 : PySem.W.codeIn K (.ref cda53) "BadNumber.__init__" = true)
    (x153 : K.lookup cda53 = some ⟨ccl53, cdd53, .fields vs53, ccs53⟩)
    (x253 : vs53[2]? = some (.str file53 tf53))
    (x353 : ((P.main.file : Str) == file53) = true)
    (x453 : K.lookup cc53 = some ⟨cl53, cld53, .cell (some (.ref C53)), csl53⟩)
    (zcomb : PySem.W.nsIn K mainGlobals "comb" = some (some (.builtin "math.comb")))
    (y1 : PySem.W.exmOne K (.ref C52) (.ref C51) = some false)
    (y2 : PySem.W.exmOne K (.ref C53) (.ref C51) = some false)
    (y3 : PySem.W.exmOne K (.ref C53) (.ref C52) = some false) :
    ∃ (c0_ Pt0_ : Addr) (fd : FuncData), PySem.W.tabIn K "_law_refused_right" = some (c0_, Pt0_) ∧ K.lookup Pt0_ = none ∧ (∀ (s : Shared) (u : Value), BindsTo s fd ⟨[u], []⟩ [("script", u)]) ∧ ∀ base : Heap, K.In base → base.Ns mainGlobals mg → (∃ mm, base.Ns sysModules mm) → TabB base mg c0_ Pt0_ → FnG P w K mg base CX0 11 fa fd ["script"] (spLaw K [(Pt0_, qLam)]) := by
  have tb_136 : PySem.W.tabIn K "_law_refused_right" = some (ct_136, Pt_136) := by
    unfold PySem.W.tabIn
    rw [a136]
    show (match K.lookup f136 with | _ => _) = _
    rw [l136]
    show (match K.lookup ct_136 with | _ => _) = _
    rw [lct_136]
    show (match vsct_136[11]? with | _ => _) = _
    rw [v11_136]
  have e := hfa.symm.trans (PySem.W.mg_of X G a137)
  cases e
  have B : B0 K mg := ⟨PySem.W.mg_none_of X G z_isinstance, PySem.W.mg_none_of X G z_list, PySem.W.mg_none_of X G z_tuple, PySem.W.mg_none_of X G z_str, PySem.W.mg_none_of X G z_len, PySem.W.mg_none_of X G z_all, PySem.W.mg_none_of X G z_any, PySem.W.mg_none_of X G z_enumerate, PySem.W.mg_none_of X G z_int, PySem.W.mg_none_of X G z_range, PySem.W.mg_none_of X G z_dict, PySem.W.mg_none_of X G z_bool, PySem.W.mg_none_of X G z_zip, ⟨_, PySem.W.mg_of X G v1⟩, ⟨_, PySem.W.mg_of X G v2⟩, ⟨_, PySem.W.mg_of X G v3⟩⟩
  have Z_sum := PySem.W.mg_none_of X G z_sum
  have Z_sorted := PySem.W.mg_none_of X G z_sorted
  have Z_repr := PySem.W.mg_none_of X G z_repr
  have X50 : PySem.XW.XTxt P K mg "index" C50 e50 :=
    { fne := by decide, fn1 := by decide, fS := by decide, fK := by decide, fd := by decide, bnd := fun _ _ _ _ _ _ _ _ _ _ _ _ _ => rfl,
      cls := ⟨nm50, q50, N50, bs50, bm50, sn50, sub50, ab50, col50, dd50, m050, m150, m250, m350, m550, xL50, xR50⟩, ini := xi50, sup := xs50, sV := xV50, mC := xM50, tp := xtp, gS := PySem.W.mg_none_of X G xgS, top := xtop, sa := xsa50, ga := xga50, gg := xgg50, noN := xno50, iC := xi50C, tC := xtC50,
      kC := xkC50, exC := xeC50, tyC := xyC50, hdC := xhC50, te := exm_self xeC50 xic50 xyC50 xss50,
      fn := ⟨_, _, _, _, _, _, _, _, _, _, _, _, _, _, _, _, _, _, _, _, _, _, _, le50, ce50, by decide, ⟨_, _, _, _, _, _, x150, x250, x350⟩, _, _, _, x450⟩ }
  have X51 : PySem.XW.XTxt P K mg "thing" C51 e51 :=
    { fne := by decide, fn1 := by decide, fS := by decide, fK := by decide, fd := by decide, bnd := fun _ _ _ _ _ _ _ _ _ _ _ _ _ => rfl,
      cls := ⟨nm51, q51, N51, bs51, bm51, sn51, sub51, ab51, col51, dd51, m051, m151, m251, m351, m551, xL51, xR51⟩, ini := xi51, sup := xs51, sV := xV51, mC := xM51, tp := xtp, gS := PySem.W.mg_none_of X G xgS, top := xtop, sa := xsa51, ga := xga51, gg := xgg51, noN := xno51, iC := xi51C, tC := xtC51,
      kC := xkC51, exC := xeC51, tyC := xyC51, hdC := xhC51, te := exm_self xeC51 xic51 xyC51 xss51,
      fn := ⟨_, _, _, _, _, _, _, _, _, _, _, _, _, _, _, _, _, _, _, _, _, _, _, le51, ce51, by decide, ⟨_, _, _, _, _, _, x151, x251, x351⟩, _, _, _, x451⟩ }
  have E51 : ErrAt P K mg "BadPath" "thing" C51 e51 := ⟨PySem.W.mg_of X G a51, X51⟩
  have X52 : PySem.XW.XTxt P K mg "most" C52 e52 :=
    { fne := by decide, fn1 := by decide, fS := by decide, fK := by decide, fd := by decide, bnd := fun _ _ _ _ _ _ _ _ _ _ _ _ _ => rfl,
      cls := ⟨nm52, q52, N52, bs52, bm52, sn52, sub52, ab52, col52, dd52, m052, m152, m252, m352, m552, xL52, xR52⟩, ini := xi52, sup := xs52, sV := xV52, mC := xM52, tp := xtp, gS := PySem.W.mg_none_of X G xgS, top := xtop, sa := xsa52, ga := xga52, gg := xgg52, noN := xno52, iC := xi52C, tC := xtC52,
      kC := xkC52, exC := xeC52, tyC := xyC52, hdC := xhC52, te := exm_self xeC52 xic52 xyC52 xss52,
      fn := ⟨_, _, _, _, _, _, _, _, _, _, _, _, _, _, _, _, _, _, _, _, _, _, _, le52, ce52, by decide, ⟨_, _, _, _, _, _, x152, x252, x352⟩, _, _, _, x452⟩ }
  have E52 : ErrAt P K mg "BadMost" "most" C52 e52 := ⟨PySem.W.mg_of X G a52, X52⟩
  have X53 : PySem.XW.XTxt P K mg "number" C53 e53 :=
    { fne := by decide, fn1 := by decide, fS := by decide, fK := by decide, fd := by decide, bnd := fun _ _ _ _ _ _ _ _ _ _ _ _ _ => rfl,
      cls := ⟨nm53, q53, N53, bs53, bm53, sn53, sub53, ab53, col53, dd53, m053, m153, m253, m353, m553, xL53, xR53⟩, ini := xi53, sup := xs53, sV := xV53, mC := xM53, tp := xtp, gS := PySem.W.mg_none_of X G xgS, top := xtop, sa := xsa53, ga := xga53, gg := xgg53, noN := xno53, iC := xi53C, tC := xtC53,
      kC := xkC53, exC := xeC53, tyC := xyC53, hdC := xhC53, te := exm_self xeC53 xic53 xyC53 xss53,
      fn := ⟨_, _, _, _, _, _, _, _, _, _, _, _, _, _, _, _, _, _, _, _, _, _, _, le53, ce53, by decide, ⟨_, _, _, _, _, _, x153, x253, x353⟩, _, _, _, x453⟩ }
  have E53 : ErrAt P K mg "BadNumber" "number" C53 e53 := ⟨PySem.W.mg_of X G a53, X53⟩
  have T : PT0 P K mg C C50 e50 := ⟨⟨pg, hd, po, sa⟩, nN, PySem.W.mg_of X G aC, PySem.W.mg_of X G a50, X50⟩
  have T1 : PT1 K C f113 := ⟨cls1, spec, tak, mo, isC_of icC tyC, a113, i113, neF⟩
  have F101 := fun_mk (st := sIsInt) l101 c101 k101
  have b101 := F101.binds (ps := ["thing"]) fun _ _ _ _ _ _ us hl => match us, hl with | [_], _ => rfl
  have g101 := PySem.W.mg_of X G a101
  have F102 := fun_mk (st := sIsNumber) l102 c102 k102
  have b102 := F102.binds (ps := ["thing"]) fun _ _ _ _ _ _ us hl => match us, hl with | [_], _ => rfl
  have g102 := PySem.W.mg_of X G a102
  have F103 := fun_mk (st := sIsTimes) l103 c103 k103
  have b103 := F103.binds (ps := ["thing"]) fun _ _ _ _ _ _ us hl => match us, hl with | [_], _ => rfl
  have g103 := PySem.W.mg_of X G a103
  have F104 := fun_mk (st := sIsList) l104 c104 k104
  have b104 := F104.binds (ps := ["thing"]) fun _ _ _ _ _ _ us hl => match us, hl with | [_], _ => rfl
  have g104 := PySem.W.mg_of X G a104
  have F105 := fun_mk (st := sIsName) l105 c105 k105
  have b105 := F105.binds (ps := ["thing"]) fun _ _ _ _ _ _ us hl => match us, hl with | [_], _ => rfl
  have g105 := PySem.W.mg_of X G a105
  have F106 := fun_mk (st := sNeedNum) l106 c106 k106
  have b106 := F106.binds (ps := ["number"]) fun _ _ _ _ _ _ us hl => match us, hl with | [_], _ => rfl
  have g106 := PySem.W.mg_of X G a106
  have F107 := fun_mk (st := sChoose) l107 c107 k107
  have b107 := F107.binds (ps := ["many", "few"]) fun _ _ _ _ _ _ us hl => match us, hl with | [_, _], _ => rfl
  have g107 := PySem.W.mg_of X G a107
  have F108 := fun_mk (st := sProduct) l108 c108 k108
  have b108 := F108.binds (ps := ["numbers"]) fun _ _ _ _ _ _ us hl => match us, hl with | [_], _ => rfl
  have g108 := PySem.W.mg_of X G a108
  have F109 := fun_mk (st := sPower) l109 c109 k109
  have b109 := F109.binds (ps := ["base", "times"]) fun _ _ _ _ _ _ us hl => match us, hl with | [_, _], _ => rfl
  have g109 := PySem.W.mg_of X G a109
  have F110 := fun_mk (st := sNeedMost) l110 c110 k110
  have b110 := F110.binds (ps := ["most"]) fun _ _ _ _ _ _ us hl => match us, hl with | [_], _ => rfl
  have g110 := PySem.W.mg_of X G a110
  have F111 := fun_mk (st := sInit) l111 c111 k111
  have b111 := F111.binds (ps := ["self", "walkers"]) fun _ _ _ _ _ _ us hl => match us, hl with | [_, _], _ => rfl
  have F112 := fun_mk (st := sWalkers) l112 c112 k112
  have b112 := F112.binds (ps := ["self"]) fun _ _ _ _ _ _ us hl => match us, hl with | [_], _ => rfl
  have F113 := fun_mk (st := sEq) l113 c113 k113
  have b113 := F113.binds (ps := ["self", "other"]) fun _ _ _ _ _ _ us hl => match us, hl with | [_, _], _ => rfl
  have F114 := fun_mk (st := sWalkersOf) l114 c114 k114
  have b114 := F114.binds (ps := ["path"]) fun _ _ _ _ _ _ us hl => match us, hl with | [_], _ => rfl
  have g114 := PySem.W.mg_of X G a114
  have F115 := fun_mk (st := sCountNotes) l115 c115 k115
  have b115 := F115.binds (ps := ["path", "most"]) fun _ _ _ _ _ _ us hl => match us, hl with | [_, _], _ => rfl
  have g115 := PySem.W.mg_of X G a115
  have F116 := fun_mk (st := sCountNoted) l116 c116 k116
  have b116 := F116.binds (ps := ["path", "most", "number"]) fun _ _ _ _ _ _ us hl => match us, hl with | [_, _, _], _ => rfl
  have g116 := PySem.W.mg_of X G a116
  have F117 := fun_mk (st := sDiffs) l117 c117 k117
  have b117 := F117.binds (ps := ["many", "most"]) fun _ _ _ _ _ _ us hl => match us, hl with | [_, _], _ => rfl
  have g117 := PySem.W.mg_of X G a117
  have F118 := fun_mk (st := sSource) l118 c118 k118
  have b118 := F118.binds (ps := ["script", "place"]) fun _ _ _ _ _ _ us hl => match us, hl with | [_, _], _ => rfl
  have g118 := PySem.W.mg_of X G a118
  have F119 := fun_mk (st := sDraw) l119 c119 k119
  have b119 := F119.binds (ps := ["draws", "many"]) fun _ _ _ _ _ _ us hl => match us, hl with | [_, _], _ => rfl
  have g119 := PySem.W.mg_of X G a119
  have F120 := fun_mk (st := sPick) l120 c120 k120
  have b120 := F120.binds (ps := ["draws", "some"]) fun _ _ _ _ _ _ us hl => match us, hl with | [_, _], _ => rfl
  have g120 := PySem.W.mg_of X G a120
  have F121 := fun_mk (st := sMixed) l121 c121 k121
  have b121 := F121.binds (ps := ["draws", "some"]) fun _ _ _ _ _ _ us hl => match us, hl with | [_, _], _ => rfl
  have g121 := PySem.W.mg_of X G a121
  have F122 := fun_mk (st := sSame) l122 c122 k122
  have b122 := F122.binds (ps := ["found", "due"]) fun _ _ _ _ _ _ us hl => match us, hl with | [_, _], _ => rfl
  have g122 := PySem.W.mg_of X G a122
  have F123 := fun_mk (st := sLoose) l123 c123 k123
  have b123 := F123.binds (ps := ["draws", "thing"]) fun _ _ _ _ _ _ us hl => match us, hl with | [_, _], _ => rfl
  have g123 := PySem.W.mg_of X G a123
  have F124 := fun_mk (st := sFewNames) l124 c124 k124
  have b124 := F124.binds (ps := ["draws", "many"]) fun _ _ _ _ _ _ us hl => match us, hl with | [_, _], _ => rfl
  have g124 := PySem.W.mg_of X G a124
  have F125 := fun_mk (st := sNames) l125 c125 k125
  have b125 := F125.binds (ps := ["draws", "most"]) fun _ _ _ _ _ _ us hl => match us, hl with | [_, _], _ => rfl
  have g125 := PySem.W.mg_of X G a125
  have F126 := fun_mk (st := sWMade) l126 c126 k126
  have b126 := F126.binds (ps := ["draws", "names"]) fun _ _ _ _ _ _ us hl => match us, hl with | [_, _], _ => rfl
  have g126 := PySem.W.mg_of X G a126
  have F127 := fun_mk (st := sInTurns) l127 c127 k127
  have b127 := F127.binds (ps := ["draws", "names", "ask", "things"]) fun _ _ _ _ _ _ us hl => match us, hl with | [_, _, _, _], _ => rfl
  have g127 := PySem.W.mg_of X G a127
  have F128 := fun_mk (st := sWFault) l128 c128 k128
  have b128 := F128.binds (ps := ["numbers", "most"]) fun _ _ _ _ _ _ us hl => match us, hl with | [_, _], _ => rfl
  have g128 := PySem.W.mg_of X G a128
  have F129 := fun_mk (st := sAllLists) l129 c129 k129
  have b129 := F129.binds (ps := ["many", "top"]) fun _ _ _ _ _ _ us hl => match us, hl with | [_, _], _ => rfl
  have g129 := PySem.W.mg_of X G a129
  have F130 := fun_mk (st := sMet) l130 c130 k130
  have b130 := F130.binds (ps := ["ask"]) fun _ _ _ _ _ _ us hl => match us, hl with | [_], _ => rfl
  have g130 := PySem.W.mg_of X G a130
  have F131 := fun_mk (st := sRightLs) l131 c131 k131
  have b131 := F131.binds (ps := ["many", "most"]) fun _ _ _ _ _ _ us hl => match us, hl with | [_, _], _ => rfl
  have g131 := PySem.W.mg_of X G a131
  have F132 := fun_mk (st := sWPower) l132 c132 k132
  have b132 := F132.binds (ps := ["base", "times"]) fun _ _ _ _ _ _ us hl => match us, hl with | [_, _], _ => rfl
  have g132 := PySem.W.mg_of X G a132
  have F133 := fun_mk (st := sSmallR) l133 c133 k133
  have b133 := F133.binds (ps := ["draws"]) fun _ _ _ _ _ _ us hl => match us, hl with | [_], _ => rfl
  have g133 := PySem.W.mg_of X G a133
  have F134 := fun_mk (st := sGreatR) l134 c134 k134
  have b134 := F134.binds (ps := ["draws"]) fun _ _ _ _ _ _ us hl => match us, hl with | [_], _ => rfl
  have g134 := PySem.W.mg_of X G a134
  have F135 := fun_mk (st := sAsked) l135 c135 k135
  have b135 := F135.binds (ps := ["path", "most"]) fun _ _ _ _ _ _ us hl => match us, hl with | [_, _], _ => rfl
  have g135 := PySem.W.mg_of X G a135
  have F136 := fun_mk (st := sRefused) l136 c136 k136
  have b136 := F136.binds (ps := ["path"]) fun _ _ _ _ _ _ us hl => match us, hl with | [_], _ => rfl
  have g136 := PySem.W.mg_of X G a136
  have F137 := fun_mk (st := sLaw) l137 c137 k137
  have b137 := F137.binds (ps := ["script"]) fun _ _ _ _ _ _ us hl => match us, hl with | [_], _ => rfl
  have g137 := PySem.W.mg_of X G a137
  refine ⟨ct_136, Pt_136, PySem.W.fnOf "law" "law" (defArgs sLaw) (defBody sLaw) (defScope sLaw) .none kV137 dc137 pm137 an137 cd137 ct137, tb_136, tbn_136, fun s v => .of_eq rfl, fun base hKb hNs mods TB0 => ?_⟩
  have hu0 : ∀ p ∈ ([(Pt_136, qLam)] : List (Addr × Str)), p.1 = Pt_136 → p.2 = qLam := fun p hp e => by
    simp only [List.mem_cons, List.not_mem_nil, or_false] at hp
    rcases hp with rfl
    · rfl
  have GI : FnOk P w K mg base (L2.CX P w) 2 f111 _ ["self", "walkers"] (spInit K C C50) := ok_init F111 B T F104 b104 g104 F105 b105 g105
  have MI : Mk K C f111 := ⟨mk, a111, i111, kc⟩
  have MW : Meth K C "walkers" f112 := ⟨a112, i112, k112⟩
  have gC : mg "comb" = some (.builtin "math.comb") := PySem.W.mg_of X G zcomb
  have G101 : FnOk P w K mg base CX0 1 f101 _ ["thing"] (spIsInt K) := ok_isInt F101 B
  have G102 : FnOk P w K mg base CX0 2 f102 _ ["thing"] (spIsNumber K) := ok_isNumber F102 G101 b101 g101 k101
  have G103 : FnOk P w K mg base CX0 2 f103 _ ["thing"] (spTimes K) := ok_isTimes F103 G101 b101 g101 k101
  have G110 : FnOk P w K mg base (L2.CX P w) 3 f110 _ ["most"] (spNeedMost K C52) := ok_needMost F110 E52 G103 b103 g103 k103
  have G106 : FnOk P w K mg base (L2.CX P w) 3 f106 _ ["number"] (spNeedNum K C53) := ok_needNum F106 E53 G102 b102 g102 k102
  have G114 : FnOk P w K mg base (L2.CX P w) 2 f114 _ ["path"] (spWalkersOf K C C51) := ok_walkersOf F114 B T T1 E51 F112 b112 MW
  have G107 : FnOk P w K mg base CX0 1 f107 _ ["many", "few"] spChoose := ok_choose F107 gC
  have G108 : FnOk P w K mg base CX0 1 f108 _ ["numbers"] spProduct := ok_product F108
  have G109 : FnOk P w K mg base CX0 2 f109 _ ["base", "times"] spPower := ok_power F109 G108 b108 g108 k108
  have G115 : FnOk P w K mg base (L2.CX P w) 4 f115 _ ["path", "most"] (spCountNotes K C C51 C52) := ok_countNotes F115 B G109 b109 g109 k109 G110 b110 g110 k110 G114 b114 g114 k114
  have G117 : FnOk P w K mg base CX0 2 f117 _ ["many", "most"] spDiffs := ok_diffs F117 B G107 b107 g107 k107
  have G116 : FnOk P w K mg base (L2.CX P w) 4 f116 _ ["path", "most", "number"] (spCountNoted K C C51 C52 C53) := ok_countNoted F116 B Z_sum G107 b107 g107 k107 G117 b117 g117 k117 G106 b106 g106 k106 G110 b110 g110 k110 G114 b114 g114 k114
  have G118 : FnOk P w K mg base CX0 1 f118 _ ["script", "place"] (spSpring K) := ok_source F118 B Z_sum
  have G119 : FnOk P w K mg base CX0 1 f119 _ ["draws", "many"] spDraw := ok_draw F119 B
  have G120 : FnOk P w K mg base CX0 2 f120 _ ["draws", "some"] spPick := ok_pick F120 B F119 b119 g119
  have G121 : FnOk P w K mg base CX0 2 f121 _ ["draws", "some"] (spMixed K) := ok_mixed F121 B F119 b119 g119
  have G122a : FnOk P w K mg base CX0 3 f122 _ ["found", "due"] (spSame 2) := ok_same F122 B b122 g122 2
  have G122c : FnOk P w K mg base CX0 9 f122 _ ["found", "due"] (spSame 8) := ok_same F122 B b122 g122 8
  have G123 : FnOk P w K mg base CX0 2 f123 _ ["draws", "thing"] (spLoose1 K) := ok_loose1 F123 B b123 g123 G119 b119 g119 k119
  have G124 : FnOk P w K mg base CX0 3 f124 _ ["draws", "many"] spNames := ok_names F124 G121 b121 g121 k121
  have G125 : FnOk P w K mg base CX0 4 f125 _ ["draws", "most"] spAnyNames := ok_anyNames F125 G124 b124 g124 k124 G119 b119 g119 k119
  have G126 : FnOk P w K mg base CX0 4 f126 _ ["draws", "names"] (spQMade C) := ok_wmade F126 B T GI b111 MI G123 b123 g123 k123
  have G128 : FnOk P w K mg base CX0 1 f128 _ ["numbers", "most"] spWFaultI := ok_wFaultI F128 B Z_sorted
  have G129 : FnOk P w K mg base CX0 1 f129 _ ["many", "top"] spWRows := ok_allLists F129 B
  have G131 : FnOk P w K mg base CX0 2 f131 _ ["many", "most"] spRightLs := ok_rightLs F131 B G128 b128 g128 k128 G129 b129 g129 k129
  have G132 : FnOk P w K mg base CX0 1 f132 _ ["base", "times"] spWPower := ok_wPower F132 B
  have G133 : FnOk P w K mg base CX0 6 f133 _ ["draws"] spSmallR := ok_smallR F133 B Z_sum G122a b122 g122 k122 G116 b116 g116 k116 (kb_countNoted F116) G115 b115 g115 k115 (kb_countNotes F115) G126 b126 g126 k126 G124 b124 g124 k124 G131 b131 g131 k131 G120 b120 g120 k120
  have G134 : FnOk P w K mg base CX0 6 f134 _ ["draws"] spGreatR := ok_greatR F134 B Z_sum G115 b115 g115 k115 (kb_countNotes F115) G116 b116 g116 k116 (kb_countNoted F116) G126 b126 g126 k126 G124 b124 g124 k124 G119 b119 g119 k119 G122a b122 g122 k122 G132 b132 g132 k132 G120 b120 g120 k120
  have G135 : FnOk P w K mg base CX0 5 f135 _ ["path", "most"] (spAsked C) := ok_asked F135 G115 b115 g115 k115 G116 b116 g116 k116
  have G127 : FnG P w K mg base CX0 8 f127 _ ["draws", "names", "ask", "things"] (spTurns C f135) := ok_inTurns F127 B Z_repr mods G135 b135 k135 G126 b126 g126 k126
  have G136 : FnOk P w K mg base CX0 10 f136 _ ["path"] (spRefused C [(Pt_136, qLam)]) := ok_refused l136 c136 B TB0 List.mem_cons_self hu0 E51 E52 E53 y1 y2 y3 F130 b130 g130 k130 G115 b115 g115 k115 G116 b116 g116 k116 G122c b122 g122 k122
  exact ok_law F137 B g135 G127 b127 g127 k127 G119 b119 g119 k119 G136 b136 g136 k136 G126 b126 g126 k126 G134 b134 g134 k134 G125 b125 g125 k125 G133 b133 g133 k133 G118 b118 g118 k118
theorem walk {l : PySem.W.OpenLaw} {q : Program} {loose : List Str} {XP : (Str → Option Value) → Heap → Prop} {YP : World → Heap → Prop} {d : DefRec} {K : Params → PySem.W.Frag} (hn : l.most = some 63) (hdf : d.params.defaults = [])
    (hY : ∀ (w : World) (h : Heap), YP w h → (K w.params).In h) (imp : PyProof.Rows.importsNone q = true) (rec0_ : ((PyProof.Rows.recsOf q).any fun e => e.name == ("_law_refused_right" : Str)) = true)
    (F : ∀ (w : World) (mg : Str → Option Value) (fa : Addr) (h : Heap), (K w.params).In h → h.Ns mainGlobals mg → mg d.name = some (.ref fa) →
      ∃ (c0_ Pt0_ : Addr) (fd : FuncData), PySem.W.tabIn (K w.params) "_law_refused_right" = some (c0_, Pt0_) ∧ (K w.params).lookup Pt0_ = none ∧ (∀ (s : Shared) (u : Value), BindsTo s fd ⟨[u], []⟩ [("script", u)]) ∧ ∀ base : Heap, (K w.params).In base → base.Ns mainGlobals mg → (∃ mm, base.Ns sysModules mm) → TabB base mg c0_ Pt0_ → FnG l.prog w (K w.params) mg base CX0 11 fa fd ["script"] (spLaw (K w.params) [(Pt0_, qLam)])) :
    PySem.W.WalkO q loose XP YP l.row.toRowW d [] (fun f vs => PySem.call f vs) := by
  refine walk_guarded (n := 63) (k := 11) (x := "script") (CX := fun _ => CX0) imp hn (by decide) hdf ⟨rfl, by decide, by decide⟩ rfl hY (fun w mg fa h Y KX G hmg tb => ?_) fun _ _ _ _ _ z => z
  obtain ⟨c0_, Pt0_, fd, h0_, n0_, h3, h4⟩ := F w mg fa h KX G hmg
  obtain ⟨t0_, u0_⟩ := tb _ c0_ Pt0_ rec0_ h0_
  have two : ∀ {p : Addr × Addr}, p ∈ [(c0_, Pt0_)] → p = (c0_, Pt0_) := fun hp => by simpa using hp
  refine ⟨fd, [(c0_, Pt0_)], spLaw (K w.params) [(Pt0_, qLam)], fun q hq => ?_, fun q hq => ?_, fun q hq => ?_, h3, fun H a ns hl _ hT hS => ⟨a, ns, rfl, hS, hl, fun p hp => ?_, fun _ => rfl⟩, fun base b1 b2 bm b3 => h4 base b1 b2 bm (b3 (c0_, Pt0_) List.mem_cons_self)⟩
  · rcases two hq with e
    · rw [e]; exact u0_
  · rcases two hq with e
    · rw [e]; exact n0_
  · rcases two hq with e
    · rw [e]; exact t0_
  · simp only [List.mem_cons, List.not_mem_nil, or_false] at hp
    rcases hp with rfl
    · exact TabS.nil (hT (c0_, Pt0_) List.mem_cons_self)
end RK

open PySem PySem.W PyProof.Rows
set_option maxRecDepth 100000 in
set_option maxHeartbeats 0 in
theorem PySem.Challenge.cw_ringwalkers_k38_whole_notes_counted_holds : PySem.Challenge.rw_ringwalkers_k38_whole_notes_counted.Holds := by
  w_on; o_law; k_head; (case hw => w_witness2)
  k_fill
  refine RK.walk (l := PySem.Challenge.rw_ringwalkers_k38_whole_notes_counted) rfl rfl (fun w h Y => PySem.W.km_in_of Y) ?I ?R0 ?F
  case I => first | rfl | decide +kernel
  case R0 => first | rfl | decide +kernel
  case F =>
    intro w mg fa h KX G hmg
    refine' RK.all_mk KX G hmg ?aC ?a50 ?xi50C ?a51 ?xi51C ?a52 ?xi52C ?a53 ?xi53C ?a101 ?l101 ?c101 ?k101 ?a102 ?l102 ?c102 ?k102 ?a103 ?l103 ?c103 ?k103 ?a104 ?l104 ?c104 ?k104 ?a105 ?l105 ?c105 ?k105 ?a106 ?l106 ?c106 ?k106 ?a107 ?l107 ?c107 ?k107 ?a108 ?l108 ?c108 ?k108 ?a109 ?l109 ?c109 ?k109 ?a110 ?l110 ?c110 ?k110 ?a111 ?i111 ?l111 ?c111 ?k111 ?a112 ?i112 ?l112 ?c112 ?k112 ?a113 ?i113 ?l113 ?c113 ?k113 ?a114 ?l114 ?c114 ?k114 ?a115 ?l115 ?c115 ?k115 ?a116 ?l116 ?c116 ?k116 ?a117 ?l117 ?c117 ?k117 ?a118 ?l118 ?c118 ?k118 ?a119 ?l119 ?c119 ?k119 ?a120 ?l120 ?c120 ?k120 ?a121 ?l121 ?c121 ?k121 ?a122 ?l122 ?c122 ?k122 ?a123 ?l123 ?c123 ?k123 ?a124 ?l124 ?c124 ?k124 ?a125 ?l125 ?c125 ?k125 ?a126 ?l126 ?c126 ?k126 ?a127 ?l127 ?c127 ?k127 ?a128 ?l128 ?c128 ?k128 ?a129 ?l129 ?c129 ?k129 ?a130 ?l130 ?c130 ?k130 ?a131 ?l131 ?c131 ?k131 ?a132 ?l132 ?c132 ?k132 ?a133 ?l133 ?c133 ?k133 ?a134 ?l134 ?c134 ?k134 ?a135 ?l135 ?c135 ?k135 ?a136 ?l136 ?c136 ?k136 ?a137 ?l137 ?c137 ?k137 ?lct_136 ?v11_136 ?tbn_136 ?pg ?hd ?po ?sa ?mk ?kc ?nN ?cls1 ?spec ?tak ?mo ?icC ?tyC ?neF ?z_isinstance ?z_list ?z_tuple ?z_str ?z_len ?z_all ?z_any ?z_enumerate ?z_int ?z_range ?z_dict ?z_bool ?z_zip ?z_sum ?z_sorted ?z_repr ?v1 ?v2 ?v3 ?xtp ?xgS ?xtop ?xL50 ?xR50 ?xi50 ?xs50 ?xV50 ?xM50 ?xsa50 ?xga50 ?xgg50 ?xno50 ?xtC50 ?xkC50 ?xeC50 ?xyC50 ?xhC50 ?xic50 ?xss50 ?le50 ?ce50 ?x150 ?x250 ?x350 ?x450 ?xL51 ?xR51 ?xi51 ?xs51 ?xV51 ?xM51 ?xsa51 ?xga51 ?xgg51 ?xno51 ?xtC51 ?xkC51 ?xeC51 ?xyC51 ?xhC51 ?xic51 ?xss51 ?le51 ?ce51 ?x151 ?x251 ?x351 ?x451 ?xL52 ?xR52 ?xi52 ?xs52 ?xV52 ?xM52 ?xsa52 ?xga52 ?xgg52 ?xno52 ?xtC52 ?xkC52 ?xeC52 ?xyC52 ?xhC52 ?xic52 ?xss52 ?le52 ?ce52 ?x152 ?x252 ?x352 ?x452 ?xL53 ?xR53 ?xi53 ?xs53 ?xV53 ?xM53 ?xsa53 ?xga53 ?xgg53 ?xno53 ?xtC53 ?xkC53 ?xeC53 ?xyC53 ?xhC53 ?xic53 ?xss53 ?le53 ?ce53 ?x153 ?x253 ?x353 ?x453 ?zcomb ?y1 ?y2 ?y3
    (case aC => k_is)
    (case a50 => k_is)
    (case xi50C => k_is)
    (case a51 => k_is)
    (case xi51C => k_is)
    (case a52 => k_is)
    (case xi52C => k_is)
    (case a53 => k_is)
    (case xi53C => k_is)
    (case a101 => k_is)
    (case l101 => k_is)
    (case c101 => k_is)
    (case k101 => k_is)
    (case a102 => k_is)
    (case l102 => k_is)
    (case c102 => k_is)
    (case k102 => k_is)
    (case a103 => k_is)
    (case l103 => k_is)
    (case c103 => k_is)
    (case k103 => k_is)
    (case a104 => k_is)
    (case l104 => k_is)
    (case c104 => k_is)
    (case k104 => k_is)
    (case a105 => k_is)
    (case l105 => k_is)
    (case c105 => k_is)
    (case k105 => k_is)
    (case a106 => k_is)
    (case l106 => k_is)
    (case c106 => k_is)
    (case k106 => k_is)
    (case a107 => k_is)
    (case l107 => k_is)
    (case c107 => k_is)
    (case k107 => k_is)
    (case a108 => k_is)
    (case l108 => k_is)
    (case c108 => k_is)
    (case k108 => k_is)
    (case a109 => k_is)
    (case l109 => k_is)
    (case c109 => k_is)
    (case k109 => k_is)
    (case a110 => k_is)
    (case l110 => k_is)
    (case c110 => k_is)
    (case k110 => k_is)
    (case a111 => k_is)
    (case i111 => k_is)
    (case l111 => k_is)
    (case c111 => k_is)
    (case k111 => k_is)
    (case a112 => k_is)
    (case i112 => k_is)
    (case l112 => k_is)
    (case c112 => k_is)
    (case k112 => k_is)
    (case a113 => k_is)
    (case i113 => k_is)
    (case l113 => k_is)
    (case c113 => k_is)
    (case k113 => k_is)
    (case a114 => k_is)
    (case l114 => k_is)
    (case c114 => k_is)
    (case k114 => k_is)
    (case a115 => k_is)
    (case l115 => k_is)
    (case c115 => k_is)
    (case k115 => k_is)
    (case a116 => k_is)
    (case l116 => k_is)
    (case c116 => k_is)
    (case k116 => k_is)
    (case a117 => k_is)
    (case l117 => k_is)
    (case c117 => k_is)
    (case k117 => k_is)
    (case a118 => k_is)
    (case l118 => k_is)
    (case c118 => k_is)
    (case k118 => k_is)
    (case a119 => k_is)
    (case l119 => k_is)
    (case c119 => k_is)
    (case k119 => k_is)
    (case a120 => k_is)
    (case l120 => k_is)
    (case c120 => k_is)
    (case k120 => k_is)
    (case a121 => k_is)
    (case l121 => k_is)
    (case c121 => k_is)
    (case k121 => k_is)
    (case a122 => k_is)
    (case l122 => k_is)
    (case c122 => k_is)
    (case k122 => k_is)
    (case a123 => k_is)
    (case l123 => k_is)
    (case c123 => k_is)
    (case k123 => k_is)
    (case a124 => k_is)
    (case l124 => k_is)
    (case c124 => k_is)
    (case k124 => k_is)
    (case a125 => k_is)
    (case l125 => k_is)
    (case c125 => k_is)
    (case k125 => k_is)
    (case a126 => k_is)
    (case l126 => k_is)
    (case c126 => k_is)
    (case k126 => k_is)
    (case a127 => k_is)
    (case l127 => k_is)
    (case c127 => k_is)
    (case k127 => k_is)
    (case a128 => k_is)
    (case l128 => k_is)
    (case c128 => k_is)
    (case k128 => k_is)
    (case a129 => k_is)
    (case l129 => k_is)
    (case c129 => k_is)
    (case k129 => k_is)
    (case a130 => k_is)
    (case l130 => k_is)
    (case c130 => k_is)
    (case k130 => k_is)
    (case a131 => k_is)
    (case l131 => k_is)
    (case c131 => k_is)
    (case k131 => k_is)
    (case a132 => k_is)
    (case l132 => k_is)
    (case c132 => k_is)
    (case k132 => k_is)
    (case a133 => k_is)
    (case l133 => k_is)
    (case c133 => k_is)
    (case k133 => k_is)
    (case a134 => k_is)
    (case l134 => k_is)
    (case c134 => k_is)
    (case k134 => k_is)
    (case a135 => k_is)
    (case l135 => k_is)
    (case c135 => k_is)
    (case k135 => k_is)
    (case a136 => k_is)
    (case l136 => k_is)
    (case c136 => k_is)
    (case k136 => k_is)
    (case a137 => k_is)
    (case l137 => k_is)
    (case c137 => k_is)
    (case k137 => k_is)
    (case lct_136 => k_is)
    (case v11_136 => first | rfl | decide +kernel)
    (case tbn_136 => first | k_is | kernel_rfl | decide +kernel | rfl)
    (case pg => k_is)
    (case hd => k_is)
    (case po => k_is)
    (case sa => k_is)
    (case mk => k_is)
    (case kc => k_is)
    (case nN => k_is)
    (case cls1 => k_is)
    (case spec => first | k_is | rfl)
    (case tak => first | k_is | rfl)
    (case mo => k_is)
    (case icC => k_is)
    (case tyC => k_is)
    (case neF => k_is)
    (case z_isinstance => k_is)
    (case z_list => k_is)
    (case z_tuple => k_is)
    (case z_str => k_is)
    (case z_len => k_is)
    (case z_all => k_is)
    (case z_any => k_is)
    (case z_enumerate => k_is)
    (case z_int => k_is)
    (case z_range => k_is)
    (case z_dict => k_is)
    (case z_bool => k_is)
    (case z_zip => k_is)
    (case z_sum => k_is)
    (case z_sorted => k_is)
    (case z_repr => k_is)
    (case v1 => k_is)
    (case v2 => k_is)
    (case v3 => k_is)
    (case xtp => first | k_is | kernel_rfl)
    (case xgS => k_is)
    (case xtop => first | rfl | decide +kernel)
    (case xL50 => k_is)
    (case xR50 => first | rfl | decide +kernel)
    (case xi50 => first | k_is | kernel_rfl | decide +kernel)
    (case xs50 => first | ks_is | k_is)
    (case xV50 => k_is)
    (case xM50 => k_is)
    (case xsa50 => k_is)
    (case xga50 => k_is)
    (case xgg50 => k_is)
    (case xno50 => k_is)
    (case xtC50 => k_is)
    (case xkC50 => k_is)
    (case xeC50 => k_is)
    (case xyC50 => k_is)
    (case xhC50 => k_is)
    (case xic50 => k_is)
    (case xss50 => first | rfl | k_is)
    (case le50 => k_is)
    (case ce50 => k_is)
    (case x150 => k_is)
    (case x250 => first | rfl | decide +kernel)
    (case x350 => first | rfl | decide +kernel)
    (case x450 => k_is)
    (case xL51 => k_is)
    (case xR51 => first | rfl | decide +kernel)
    (case xi51 => first | k_is | kernel_rfl | decide +kernel)
    (case xs51 => first | ks_is | k_is)
    (case xV51 => k_is)
    (case xM51 => k_is)
    (case xsa51 => k_is)
    (case xga51 => k_is)
    (case xgg51 => k_is)
    (case xno51 => k_is)
    (case xtC51 => k_is)
    (case xkC51 => k_is)
    (case xeC51 => k_is)
    (case xyC51 => k_is)
    (case xhC51 => k_is)
    (case xic51 => k_is)
    (case xss51 => first | rfl | k_is)
    (case le51 => k_is)
    (case ce51 => k_is)
    (case x151 => k_is)
    (case x251 => first | rfl | decide +kernel)
    (case x351 => first | rfl | decide +kernel)
    (case x451 => k_is)
    (case xL52 => k_is)
    (case xR52 => first | rfl | decide +kernel)
    (case xi52 => first | k_is | kernel_rfl | decide +kernel)
    (case xs52 => first | ks_is | k_is)
    (case xV52 => k_is)
    (case xM52 => k_is)
    (case xsa52 => k_is)
    (case xga52 => k_is)
    (case xgg52 => k_is)
    (case xno52 => k_is)
    (case xtC52 => k_is)
    (case xkC52 => k_is)
    (case xeC52 => k_is)
    (case xyC52 => k_is)
    (case xhC52 => k_is)
    (case xic52 => k_is)
    (case xss52 => first | rfl | k_is)
    (case le52 => k_is)
    (case ce52 => k_is)
    (case x152 => k_is)
    (case x252 => first | rfl | decide +kernel)
    (case x352 => first | rfl | decide +kernel)
    (case x452 => k_is)
    (case xL53 => k_is)
    (case xR53 => first | rfl | decide +kernel)
    (case xi53 => first | k_is | kernel_rfl | decide +kernel)
    (case xs53 => first | ks_is | k_is)
    (case xV53 => k_is)
    (case xM53 => k_is)
    (case xsa53 => k_is)
    (case xga53 => k_is)
    (case xgg53 => k_is)
    (case xno53 => k_is)
    (case xtC53 => k_is)
    (case xkC53 => k_is)
    (case xeC53 => k_is)
    (case xyC53 => k_is)
    (case xhC53 => k_is)
    (case xic53 => k_is)
    (case xss53 => first | rfl | k_is)
    (case le53 => k_is)
    (case ce53 => k_is)
    (case x153 => k_is)
    (case x253 => first | rfl | decide +kernel)
    (case x353 => first | rfl | decide +kernel)
    (case x453 => k_is)
    (case zcomb => k_is)
    (case y1 => first | k_is | rfl | decide +kernel)
    (case y2 => first | k_is | rfl | decide +kernel)
    (case y3 => first | k_is | rfl | decide +kernel)

