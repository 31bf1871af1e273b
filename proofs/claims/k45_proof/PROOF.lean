import PyProof.Rows.All
import Wide.All
import OpenK.AllK
import Wide.FinOn
import KE.KExcSuper
import HandS.Base
import HandS.Call
import HandS.Exc
import HandS.ExcOwn
import HandS.Words
import HandS.CallRecv
import KE.GoesNew
import HandS.ForMost
import HandS.Walk
import KE.KDictList
import PyProof.TupleOfStr
import PyProof.Rows.Range3
import HandS.Conv
import PyProof.InstNe
import HandS.IsInst
import PyProof.IsiBase
import HandS.Flow
import HandS.Zip
import HandS.CallSlots
import HandS.ExcField
import HandS.MakeKwOnly
import HandS.Style
import HandS.TryOnly
import HandS.WordsExc
import HandS.Wide
import HandS.Evl
import HandS.SetBool
import HandS.Strs
import HandS.Comp
import HandS.CallLocal
import HandS.WordsDict
import HandS.DictComp
import HandS.ListItems
import HandS.Iter
import HandS.Small
import KE.GoesMore
import HandS.Defaults
import PyProof.ReprRoads
import PyProof.StrLawsRepr
import PyProof.FitsInt
import HandS.Rev
import HandS.Deep
import HandS.SetFor
import HandS.Sort
import KE.KDictSum
import KE.KItemsList
import KE.KDictZip
import KE.SortKeyHeap
import HandS.Nested
import HandS.Lambda
import HandS.SortKw
import HandS.List
import HandS.Finally
import KE.KDictCopyH
import KE.KDictWalk
import HandS.TupLe
import HandS.EndTab
import HandS.DeepEq
import PySem.Challenge.RW_ringwalkers_k45_whole_photos_and_laps
set_option Elab.async false
set_option linter.all false
set_option maxRecDepth 100000
set_option maxHeartbeats 4000000
/-! own error classes with one field: def __init__(self, f): super().__init__(text); self.f = f, over ValueError (at any depth of own classes) -/
namespace PySem
namespace XW
open PySem.W PySem.Calls PyProof.Rows PySem.HandSPX
def xA (f : Str) (p1 p2 : Pos) : Arguments := { posonlyargs := [], args := [{ arg := "self", annotation := none, pos := p1 }, { arg := f, annotation := none, pos := p2 }], vararg := none, kwonlyargs := [], kw_defaults := [], kwarg := none, defaults := [] }
def xB1 (txt : Str) (q1 q2 q3 q4 q5 q6 : Pos) : Stmt := .Expr (.Call (.Attribute (.Call (.Name "super" q1) [] [] q2) "__init__" q3) [.Constant (.str txt) 0 q4] [] q5) q6
def xB2 (f : Str) (r1 r2 r3 r4 : Pos) : Stmt := .Assign [.Attribute (.Name "self" r1) f r2] (.Name f r3) r4
def xS (f : Str) : Scope := { kind := .function, names := [("self", .local), (f, .local), ("__class__", .free), ("super", .globalImplicit)], isGenerator := false, isCoroutine := false, more := [] }
/-- what the written part says of the class at C, and of its __init__, at fI -/
structure XTxt (prog : Program) (K : Frag) (mg : Str → Option Value) (f : Str) (C fI : Addr) : Prop where
  fne : f ≠ "self"
  fn1 : (f == ("self" : Str)) = false
  fS : (("super" : Str) == f) = false
  fK : (("__class__" : Str) == f) = false
  fd : (f == ("__debug__" : Str)) = false
  bnd : ∀ (qual : Str) (p1 p2 : Pos) (b1 b2 : Stmt) (doc pm : Value) (an : Option Addr) (cd ct : Value) (cc : Addr) (u v : Value), bindArgs (ksFn "__init__" qual (xA f p1 p2) [b1, b2] (xS f) .none .none doc pm an cd ct cc) ⟨[u, v], []⟩ = pure [(("self" : Str), u), (f, v)]
  cls : ∃ nm q N bs bm sn sub ab col dd k0 k1 k2 k3 k5, K.lookup C = some (excClassObj nm q C N bs bm true sn sub ab col dd k0 k1 k2 k3 k5 "ValueError.__new__") ∧ refsVE bm = true
  ini : excInitIn K C [.type "ValueError", .type "Exception", .type "BaseException", .type "object"] "ValueError.__new__" = true
  sup : ks_superIn K C C "__init__" = some (some (.builtin "ValueError.__init__"))
  sV : subIn K (.ref C) (.type "ValueError") = some true
  mC : mroIn K C (.ref C) = some true
  tp : nsIn K cStatics "thirdparty.any" = some none
  gS : mg "super" = none
  top : (prog.main.scope.names.lookup ("super" : Str)).isSome = false
  sa : findIn K (.ref C) "__setattr__" = some (some (.builtin "object.__setattr__"))
  ga : findIn K (.ref C) "__getattribute__" = some (some (.builtin "BaseException.__getattribute__"))
  gg : findIn K (.ref C) "__getattr__" = some none
  noN : findIn K (.ref C) f = some none
  iC : findIn K (.ref C) "__init__" = some (some (.ref fI))
  tC : typeIn K (.ref fI) = some (.type "function")
  kC : keepIn K (.ref C) = true
  exC : subIn K (.ref C) (.type "BaseException") = some true
  tyC : typeIn K (.ref C) = some (.type "type")
  hdC : hasDictIn K C = true
  te : exmOne K (.ref C) (.ref C) = some true
  fn : ∃ (oc : Value) (od : Option Addr) (doc pm : Value) (an : Option Addr) (cda cc : Addr) (ct : Value) (osl : Array (Option Value)) (qual txt : Str) (p1 p2 q1 q2 q3 q4 q5 q6 r1 r2 r3 r4 : Pos),
    K.lookup fI = some ⟨oc, od, .func (ksFn "__init__" qual (xA f p1 p2) [xB1 txt q1 q2 q3 q4 q5 q6, xB2 f r1 r2 r3 r4] (xS f) .none .none doc pm an (.ref cda) ct cc), osl⟩ ∧ codeIn K (.ref cda) qual = true ∧ (q3.endLine == q5.line) = true ∧
    (∃ (ccl : Value) (cdd : Option Addr) (vs : Array Value) (ccs : Array (Option Value)) (file : Str) (tf : Tok), K.lookup cda = some ⟨ccl, cdd, .fields vs, ccs⟩ ∧ vs[2]? = some (.str file tf) ∧ ((prog.main.file : Str) == file) = true) ∧
    ∃ (cl : Value) (cld : Option Addr) (csl : Array (Option Value)), K.lookup cc = some ⟨cl, cld, .cell (some (.ref C)), csl⟩
/-- what __init__ leaves of a fresh exception at x; hp: the heap ahead of the making -/
structure XEnd (hp h' : Heap) (x C dx t1 : Addr) (f : Str) (v : Value) : Prop where
  keep : ∀ b o, hp.get? b = some o → h'.get? b = some o
  obj : h'.get? x = some { cls := .ref C, dict := some dx, data := .fields #[.ref t1, .none, .none, .none, .bool false, .none] }
  dbig : hp.objs.size ≤ dx
  dne : dx ≠ x
  ns : h'.Ns1 dx (fun y => if y = f then some v else none)
theorem hc_of {q1 q2 q3 q4 q5 : Pos} {txt : Str} {env : Env} (h : (q3.endLine == q5.line) = true) :
  eval (.Call (.Attribute (.Call (.Name "super" q1) [] [] q2) "__init__" q3) [.Constant (.str txt) 0 q4] [] q5) env = (do
      let ov ← attributeBase (.Call (.Name "super" q1) [] [] q2) "__init__" env (eval (.Call (.Name "super" q1) [] [] q2) env)
      standAt q3.atName
      let (f, first) ← holding [ov] (getMethod ov "__init__" (do return (← importBound (.Call (.Name "super" q1) [] [] q2) env).getD true))
      callWith q5 f first (backTo q5 (starEach [.Constant (.str txt) 0 q4] env)) []) := by
  rw [arm_eval_Call]
  have e : ∀ ov, methodCall (.Call (.Name "super" q1) [] [] q2) "__init__" q3 q5 env ov ([Expr.Constant (.str txt) 0 q4].length + ([] : List Keyword).length) (backTo q5 (starEach [.Constant (.str txt) 0 q4] env)) (backToKw q5 (keywordEach [] env)) = (do
      let (f, first) ← holding [ov] (getMethod ov "__init__" (do return (← importBound (.Call (.Name "super" q1) [] [] q2) env).getD true))
      callWith q5 f first (backTo q5 (starEach [.Constant (.str txt) 0 q4] env)) []) := by
    intro ov
    have hf : methodCallForm ([Expr.Constant (.str txt) 0 q4].length + ([] : List Keyword).length) (backTo q5 (starEach [.Constant (.str txt) 0 q4] env)) (backToKw q5 (keywordEach [] env)) = true := by rfl
    unfold methodCall calleeOf methodCallPos
    rw [hf]
    simp only [h, Bool.not_true, Bool.false_or, if_true, pure_bind]
    rfl
  simp only [e]
theorem xS_sup {f : Str} {qual : Str} {L a : Addr} {cd : Value} {cc : Addr} (h : (("super" : Str) == f) = false) : (ksEnv qual (xS f) L a cd cc).kindOf "super" = some .globalImplicit := by
  show List.lookup ("super" : Str) [(("self" : Str), NameKind.local), (f, .local), ("__class__", .free), ("super", .globalImplicit)] = some .globalImplicit
  have e1 : (("super" : Str) == ("self" : Str)) = false := by decide +kernel
  have e2 : (("super" : Str) == ("__class__" : Str)) = false := by decide +kernel
  simp only [List.lookup, h, e1, e2, beq_self_eq_true]
theorem xS_cls {f : Str} {qual : Str} {L a : Addr} {cd : Value} {cc : Addr} (h : (("__class__" : Str) == f) = false) : (ksEnv qual (xS f) L a cd cc).kindOf "__class__" = some .free := by
  show List.lookup ("__class__" : Str) [(("self" : Str), NameKind.local), (f, .local), ("__class__", .free), ("super", .globalImplicit)] = some .free
  have e1 : (("__class__" : Str) == ("self" : Str)) = false := by decide +kernel
  simp only [List.lookup, h, e1, beq_self_eq_true]
theorem xS_loc {f : Str} {qual : Str} {L a : Addr} {cd : Value} {cc : Addr} (h : (f == ("self" : Str)) = false) : (ksEnv qual (xS f) L a cd cc).kindOf f = some .local := by
  show List.lookup f [(("self" : Str), NameKind.local), (f, .local), ("__class__", .free), ("super", .globalImplicit)] = some .local
  simp [List.lookup, h]
section
variable {prog : Program} {w : World} {A : Around} {E : Value → Shared → Prop} {R : Result → Shared → Prop} {s : Shared} {K : Frag} {mg : Str → Option Value} {f : Str} {C fI : Addr}
theorem x_init (T : XTxt prog K mg f C fI) {hp : Heap} {x t0 : Addr} {v : Value} (M : L2.Mod K mg hp) (k0 : ∀ b o, hp.get? b = some o → s.heap.get? b = some o) (hxn : hp.get? x = none) (hsz : hp.objs.size ≤ s.heap.objs.size)
    (hx : s.heap.get? x = some (excO C t0)) (hroom : A.depth < recursionLimit)
    (hq : ∀ h' tk dx t1, XEnd hp h' x C dx t1 f v → R (.ok (.ret .none)) { s with heap := h', toks := tk }) :
    codeAny (model prog w) A (.call (.ref fI) ⟨[.ref x, v], []⟩) R s := by
  obtain ⟨oc, od, doc, pm, an, cda, cc, ct, osl, qual, txt, p1, p2, q1, q2, q3, q4, q5, q6, r1, r2, r3, r4, ho, hcd, hline, ⟨ccl, cdd, vs, ccs, file, tf, hcode, hvs, hfile⟩, cl, cld, csl, hcell⟩ := T.fn
  obtain ⟨nm, q, N, bs, bm, sn, sub, ab, col, dd, k0', k1, k2, k3, k5, hC, hbm⟩ := T.cls
  have hcl : clsIn K C = some { name := nm, bases := bs, mro := .ref C :: bm, ns := N, qualname := q, hasDict := true, slotNames := sn, subclasses := sub, abstract := ab, collection := col, hasDel := false } := by unfold clsIn; rw [hC] <;> rfl
  have X := M.kin
  have Xs : K.In s.heap := X.keeps k0
  have hlim : s.heap.NoLimit := M.nolimit.keeps k0
  refine ks_codeAny_call_defAt (fd := ksFn "__init__" qual (xA f p1 p2) [xB1 txt q1 q2 q3 q4 q5 q6, xB2 f r1 r2 r3 r4] (xS f) .none .none doc pm an (.ref cda) ct cc) (body := [xB1 txt q1 q2 q3 q4 q5 q6, xB2 f r1 r2 r3 r4])
    (binds := [("self", .ref x), (f, v)]) hroom (Xs _ _ ho) rfl hlim (codeRec_of Xs hcd) rfl (BindsTo.of_eq (T.bnd _ _ _ _ _ _ _ _ _ _ _ _ _)) (by simp [xS]) (by simp [xS, List.lookup, T.fn1]) (fun h₁ hns hk₁ => ?_)
  have F₁ : Fr hp s.heap.objs.size h₁ (fun y => List.lookup y [(f, v), ("self", Value.ref x)]) := ⟨hns, fun b o e => hk₁ b o (k0 b o e), hsz⟩
  have N₁ : News hp s.heap.objs.size h₁ [(x, excObj C t0 none .none)] := fun p hp' => by
    rcases List.mem_cons.mp hp' with rfl | hp'
    · exact ⟨hk₁ _ _ hx, Nat.ne_of_lt (Heap.lt_size hx), hxn⟩
    · cases hp'
  have X₁ : K.In h₁ := X.keeps F₁.keep
  have ns0 : (f == ("self" : Str)) = false := T.fn1
  have lself : List.lookup ("self" : Str) [(f, v), ("self", Value.ref x)] = some (.ref x) := by
    have e : ((("self" : Str) == f) : Bool) = false := by
      have := T.fne
      simpa using fun z => this z.symm
    simp [List.lookup, e]
  have lf : List.lookup f [(f, v), ("self", Value.ref x)] = some v := by simp [List.lookup]
  obtain ⟨mb, hb1, hb2⟩ := M.blt
  have I₁ : InstAt h₁ x (excObj C t0 none .none) C none := InstAt.of_exc0 N₁ List.mem_cons_self
  refine ks_wpAt_execs_cons (ks_wpAt_Expr_any (ks_wpAt_MethodCall ?_ (hc_of hline)))
  have hkS : (ksEnv qual (xS f) s.heap.objs.size fI (.ref cda) cc).kindOf "self" = some .local := by rfl
  obtain ⟨oC, hC1, hC2⟩ : ∃ oD, h₁.get? C = some oD ∧ oD.data = .cls { name := nm, bases := bs, mro := .ref C :: bm, ns := N, qualname := q, hasDict := true, slotNames := sn, subclasses := sub, abstract := ab, collection := col, hasDel := false } := ⟨_, X₁ _ _ hC, rfl⟩
  have hkf := xS_loc (qual := qual) (L := s.heap.objs.size) (a := fI) (cd := .ref cda) (cc := cc) T.fn1
  refine ks_wpAt_super_base (env := ksEnv qual (xS f) s.heap.objs.size fI (.ref cda) cc) (f := fI) (ar := { arg := "self", annotation := none, pos := p1 }) ?k1 ?k2 (by decide) rfl (X₁ _ _ ho) rfl rfl rfl (X₁ _ _ hcode) rfl hvs hfile T.top ?_
  case k1 => exact xS_sup T.fS
  case k2 => exact xS_cls T.fK
  refine ks_loadName_global rfl ?k1 (Calls.loadGlobal_builtin (M.glob.keeps F₁.keep) T.gS (hb1.keeps F₁.keep) ((hb2 _ (by decide +kernel)).trans (by decide +kernel : bootBuiltins "super" = some (.type "super"))) ⟨rfl, ?_⟩)
  case k1 => exact xS_sup T.fS
  refine wpAny_loadName_free rfl ?k2 rfl ⟨_, X₁ _ _ hcell, rfl⟩ ?_
  case k2 => exact xS_cls T.fK
  refine wpAny_loadName_local rfl hkS F₁.ns lself ?_
  refine ks_wpAny_isType_cls hC1 hC2 ⟨rfl, ?_⟩
  refine ks_wpAny_call_super hC1 hC2 I₁.at_ I₁.cls (fun c e => ?_) (looks_mroIn X₁ T.mC) (fun h' e k => ?_)
  · cases e
  obtain ⟨F₂, N₂, l₂⟩ := ks_newsPush (s := ⟨h₁, s.gens, s.drawn, s.toks + 2, s.os⟩) F₁ N₁ rfl e k
  refine kxs_method (s := ⟨h', s.gens, s.drawn, s.toks + 2, s.os⟩) kxs_ValueError F₂ X N₂ List.mem_cons_self (InstAt.of_exc0 N₂ (List.mem_cons_of_mem _ List.mem_cons_self)) T.tp T.sup T.sV (by decide) (fun u h'' F₃ N₃ l₃ => ?_)
  refine kxs_callWith1 N₃ List.mem_cons_self ?_
  refine spliced_more (Calls.Constant_str (spliced_none ⟨kxs_at N₃ List.mem_cons_self, ?_⟩))
  have lx2 : x < h₁.objs.size := l₂ (x, excObj C t0 none .none) List.mem_cons_self
  have lx3 : x < u := l₃ (x, excObj C t0 none .none) (List.mem_cons_of_mem _ List.mem_cons_self)
  refine kxs_call F₃ X N₃ F.excBase_ValueError T.ini List.mem_cons_self (UpdF.tail (Nat.ne_of_gt lx3) (UpdF.tail (Nat.ne_of_gt lx2) (UpdF.head (fun p hp => nomatch hp)))) (by rw [sizeLine_eq]; show 1 ≤ 16777216; decide) (fun t1 h4 F₄ N₄ l₄ => ?_)
  -- self.f = f
  have X₄ : K.In h4 := X.keeps F₄.keep
  have hx4 : h4.get? x = some (excObj C t1 none .none) := (N₄ (x, excObj C t1 none .none) (by simp)).1
  refine wpAt_of_wpAny (wpAny_execs_cons (plainObj_wpAny_Assign_Attribute (wpAny_Name (wpAny_loadName_local rfl hkf F₄.ns lf (wpAny_Name (wpAny_loadName_local rfl hkS F₄.ns lself ?_) (by decide))) T.fd)))
  refine set_plain X₄ (ox := excO C t1) (od := none) ⟨hx4, rfl, rfl, trivial⟩ T.sa ?_
  refine exc_osa X₄ hx4 hcl (show refsVE (.ref C :: bm) = true from hbm) rfl T.noN (fun h₅ tk₅ dx k₅ dn dne hx₅ hn₅ => ?_)
  refine wpAny_execs_nil (hq h₅ tk₅ dx t1 ⟨fun b o e => k₅ b o (fun z => ?_) (F₄.keep b o e), hx₅, ?_, dne, hn₅⟩)
  · rw [z, hxn] at e
    cases e
  · have q1 : s.heap.objs.size < h4.objs.size := F₄.ns.lt
    exact Nat.le_trans hsz (Nat.le_of_lt (Nat.lt_of_lt_of_le q1 dn))
/-- a made error -/
structure XMade (h h' : Heap) (e C d : Addr) (f : Str) (v : Value) : Prop where
  keep : ∀ b o, h.get? b = some o → h'.get? b = some o
  new : h.objs.size ≤ e
  obj : ∃ oe vs, h'.get? e = some oe ∧ oe.cls = .ref C ∧ oe.dict = some d ∧ oe.data = .fields vs ∧ vs[1]? = some .none
  dbig : h.objs.size ≤ d
  dne : d ≠ e
  ns : h'.Ns1 d (fun y => if y = f then some v else none)
theorem x_made (T : XTxt prog K mg f C fI) {v : Value} (M : L2.Mod K mg s.heap) (hroom : A.depth + 1 < recursionLimit)
    (hq : ∀ h' tk e d, XMade s.heap h' e C d f v → R (.ok (.ret (.ref e))) { s with heap := h', toks := tk }) :
    codeAny (model prog w) A (.call (.ref C) ⟨[v], []⟩) R s := by
  obtain ⟨nm, q, N, bs, bm, sn, sub, ab, col, dd, k0, k1, k2, k3, k5, hC, hbm⟩ := T.cls
  obtain ⟨hp, g, dr, tk, os⟩ := s
  have X : K.In hp := M.kin
  have k : ∀ b o, hp.get? b = some o → ((hp.push (kdv_tup [v])).push (excO C hp.objs.size)).get? b = some o := fun b o e => Heap.get?_push_of_some _ (Heap.get?_push_of_some _ e)
  have hget : ((hp.push (kdv_tup [v])).push (excO C hp.objs.size)).get? (hp.objs.size + 1) = some (excO C hp.objs.size) := by heap_get
  have hnone : hp.get? (hp.objs.size + 1) = none := by
    cases e : hp.get? (hp.objs.size + 1) with
    | none => rfl
    | some o => exact absurd (Nat.lt_of_succ_lt (Heap.lt_size e)) (Nat.lt_irrefl _)
  refine call_own F.excBase_ValueError (fun X => refsVE_contains X bm hbm) (X _ _ hC) (looks_findIn X T.iC) (fun self => bind_fn X self T.tC) (by rw [sizeLine_eq]; show 1 ≤ 16777216; decide) ?_
  refine x_init (s := ⟨(hp.push (kdv_tup [v])).push (excO C hp.objs.size), g, dr, tk, os⟩) T M k hnone ?_ hget ?_ fun h' tk' dx t1 Y => ?_
  · show hp.objs.size ≤ ((hp.push (kdv_tup [v])).push (excO C hp.objs.size)).objs.size
    rw [Heap.size_push, Heap.size_push]
    omega
  · show A.depth + 1 < recursionLimit
    exact hroom
  · exact ⟨rfl, hq h' tk' (hp.objs.size + 1) dx ⟨Y.keep, Nat.le_succ _, ⟨_, _, Y.obj, rfl, rfl, rfl, rfl⟩, Y.dbig, Y.dne, Y.ns⟩⟩
end
end XW
end PySem
namespace L2
open PySem PySem.Spec PyProof.Rows
theorem relO_x {f : Str} {v : V} {v' : Value} (r : RelV v v') (g : Str) : RelO (List.lookup g [(f, v)]) (if g = f then some v' else none) := by
  by_cases hw : g = f
  · subst hw
    rw [if_pos rfl]
    have q : List.lookup g [(g, v)] = some v := by simp [List.lookup]
    rw [q]
    exact r
  · rw [if_neg hw]
    have qw : (g == f) = false := by simpa using hw
    have q2 : List.lookup g [(f, v)] = none := by simp [List.lookup, qw]
    rw [q2]
    trivial
section
variable {X : Cx} {C fI : Addr} {f : Str}
/-- C(e) -/
def tMkX (f : Str) (C : Addr) (ta : TA) : St → Hp → XK → Prop := fun σ H Q => ta σ H fun vs H1 => ∃ v, vs = [v] ∧ ∀ d, H1 d = none → Q (.ref C) (some d) (upd H1 d (.xd [(f, v)]))
theorem Inv.mod1 {pins : List (Addr × Obj)} {σ : St} {H : Hp} {s : Shared} (I : Inv X pins σ H s) : Mod X.K X.mg s.heap :=
  ⟨I.kIn, I.mod.glob.keeps I.bk, let ⟨mb, h1, h2⟩ := I.mod.blt; ⟨mb, h1.keeps I.bk, h2⟩, I.nolimit⟩
theorem pmk_x {nm : Str} {a : Expr} {ta : TA} {p pos : Pos} {k : Nat} (T : PySem.XW.XTxt X.prog X.K X.mg f C fI) (gC : X.mg nm = some (.ref C)) (hr : Room k X.A) (ha : PA X [a] ta) (hg : Gl X nm := by rfl)
    (hdb : (nm == ("__debug__" : Str)) = false := by decide) (he : starEach (a :: []) X.env = (false, eval a X.env) :: starEach [] X.env := by rfl) (hpl : (backTo pos (starEach [] X.env)).any (·.1) = false := by rfl) :
    PMk X (.Call (.Name nm p) [a] [] pos) (tMkX f C ta) := by
  intro pins s σ H Q I h
  refine wpAny_Call_Name_kw (ld_glob I hg gC ?_ hdb)
  refine PySem.W.callWith_K (h₀ := X.base) I.ok.mod.kin T.kC (thn (ha.run pos pins s σ H _ I h) fun us s1 hh => ?_) he hpl
  obtain ⟨vs, H1, I1, r1, v, ev, q1⟩ := hh
  subst ev
  refine ⟨I1.kIn, ?_⟩
  cases r1 with
  | cons rv rn =>
    rename_i v' us'
    cases rn
    show wpAny _ _ (call (.ref C) [v']) _ _ _
    have hmod := I1.mod1
    obtain ⟨hp, g, dr, tk, os⟩ := s1
    refine wpAny_call (PySem.XW.x_made T hmod (by have := hr.dp; omega) fun h' tk' e d M => ?_)
    show MkP X pins σ Q (.ref e) ⟨h', g, dr, tk', os⟩
    obtain ⟨oe, fv, hoe, hc, hd, hdat, h1⟩ := M.obj
    have hns := M.ns
    obtain ⟨G', g1, g2⟩ := restrict h' fun b => decide (b ≠ e)
    have gk : ∀ b, b ≠ e → G'.get? b = h'.get? b := fun b hb => g1 b (decide_eq_true hb)
    have ge : G'.get? e = none := g2 e (by simp)
    have old : ∀ b o, hp.get? b = some o → G'.get? b = some o := fun b o q => (gk b (Nat.ne_of_lt (Nat.lt_of_lt_of_le (Heap.lt_size q) M.new))).trans (M.keep b o q)
    have ob : ObjOk X.prog X.w (upd H1 d (.xd [(f, v)])) G' d (.xd [(f, v)]) :=
      ⟨_, hns.at (fun o q => (gk d M.dne).trans q), fun g => relO_x rv g⟩
    have J : Inv X pins σ (upd H1 d (.xd [(f, v)])) ⟨G', g, dr, tk', os⟩ := I1.laid (t' := tk') old M.dbig ob
    refine ⟨e, oe, fv, ⟨G', g, dr, tk', os⟩, _, .ref C, some d, rfl, J, fun b o q => ?_, ge, hoe, ⟨hc, hd⟩, hdat, h1, ?_, rfl, I1.bare, raises_own T.exC T.tyC, q1 d (I1.hok.fresh M.dbig)⟩
    · by_cases hb : b = e
      · have q' : G'.get? b = some o := q
        rw [hb, ge] at q'; cases q'
      · exact (gk b hb).symm.trans q
    · rw [upd_ne (Ne.symm M.dne)]
      exact I1.hok.fresh M.new
/-- raise C(e) -/
def tRaiseX (f : Str) (C : Addr) (W : WX) (ta : TA) : TS := fun _ σ H => tMkX f C ta σ H fun cls d H' => W cls d σ H'
theorem ps_raiseX {nm : Str} {a : Expr} {ta : TA} {W : WX} {p pos pos2 : Pos} {k : Nat} (hc : X.calm = true) (T : PySem.XW.XTxt X.prog X.K X.mg f C fI) (gC : X.mg nm = some (.ref C)) (hr : Room k X.A) (tk : Takes X W) (ha : PA X [a] ta) (hg : Gl X nm := by rfl)
    (hdb : (nm == ("__debug__" : Str)) = false := by decide) (he : starEach (a :: []) X.env = (false, eval a X.env) :: starEach [] X.env := by rfl) (hpl : (backTo pos (starEach [] X.env)).any (·.1) = false := by rfl) :
    PS X (.Raise (some (.Call (.Name nm p) [a] [] pos)) none pos2) (tRaiseX f C W ta) := ps_raise hc tk (pmk_x T gC hr ha hg hdb he hpl)
end
end L2

/-! enumerate of a tuple -/
namespace PySem
open Sem (wp)
open AutoSeq1 (wpAny_loadPart')
theorem kx_enum_newT (l : Addr) (items : Array Value) (o : Obj) (hoc : o.cls = .type "tuple") (n0 : Nat) (hod : o.data = .seq items n0) :
    Meets (Builtin.«enumerate.__new__» ⟨[.type "enumerate", .ref l], []⟩) (fun _ R s => s.heap.get? l = some o ∧
      R (.ok (.ret (.ref (s.heap.objs.size + 1)))) { s with heap := (s.heap.push { cls := .type "tuple_iterator", data := .fields #[.ref l, .int 0 0] }).push { cls := .type "enumerate", data := .fields #[.none, .bool false, .ref s.heap.objs.size, rawInt 0, .none, .none] } }) :=
  .of_wp fun prog w A R s h => by
    obtain ⟨hp, g, d, tk, os⟩ := s; obtain ⟨hl, h⟩ := h
    have hsub := sub_enumerate
    have hT : Heap.IsTuple (Shared.heap ⟨hp, g, d, tk, os⟩) l items := ⟨_, hl, hoc, n0, hod⟩
    have hz : (hp.push { cls := .type "tuple_iterator", data := .fields #[.ref l, .int 0 0] }).objs.size = hp.objs.size + 1 := Heap.size_push ..
    obtain ⟨oc, od, dt, sl⟩ := o
    replace hoc : oc = .type "tuple" := hoc
    replace hod : dt = .seq items n0 := hod
    subst hoc hod
    wp_walk using wpAny_loadPart' hl
    refine wpAny_stack_any fun st => wpAny_pure ?_
    split
    · rename_i c _ _ _ _ _
      cases (c == Value.type "enumerate") <;> (wp_walk using wpAny_loadPart' hl, wpAny_pyIter_tuple hT; rw [hz]; exact ⟨_, rfl, h⟩)
    · wp_walk using wpAny_loadPart' hl, wpAny_pyIter_tuple hT
      rw [hz]; exact ⟨_, rfl, h⟩
section
variable {prog : Program} {w : World} {A : Around} {E : Value → Shared → Prop} {s : Shared}
theorem kx_call_enumT {l : Addr} {items : Array Value} {Q : Value → Shared → Prop} (hL : s.heap.IsTuple l items)
    (h : ∀ h', IsEnum h' (s.heap.objs.size + 1) s.heap.objs.size 0 .none → h'.IsTupleIter s.heap.objs.size l 0 → (∀ b o, s.heap.get? b = some o → h'.get? b = some o) → Q (.ref (s.heap.objs.size + 1)) { s with heap := h' }) :
    wpAny (model prog w) A (call (.type "enumerate") [.ref l]) Q E s := by
  obtain ⟨o, hl, hc, n, hd⟩ := hL
  refine callType_new F.called_enumerate (by decide) (F.typeCall_enumerate_1 _) (F.newCall_enumerate_1 _) (fun obj => F.args_object_init_2 obj _) F.entry_enumerate_new (kx_enum_newT l items o hc n hd) ⟨hl, ?_⟩
  have hz : (s.heap.push { cls := .type "tuple_iterator", data := .fields #[.ref l, .int 0 0] }).objs.size = s.heap.objs.size + 1 := Heap.size_push ..
  have he : IsEnum ((s.heap.push { cls := .type "tuple_iterator", data := .fields #[.ref l, .int 0 0] }).push { cls := .type "enumerate", data := .fields #[.none, .bool false, .ref s.heap.objs.size, rawInt 0, .none, .none] }) (s.heap.objs.size + 1) s.heap.objs.size 0 .none := by
    have z := Heap.get?_push_size (s.heap.push { cls := .type "tuple_iterator", data := .fields #[.ref l, .int 0 0] }) (o := { cls := .type "enumerate", data := .fields #[.none, .bool false, .ref s.heap.objs.size, rawInt 0, .none, .none] }) rfl
    rw [hz] at z; exact z
  exact ⟨⟨_, he, rfl⟩, h _ he ⟨_, Heap.get?_push_of_some _ (Heap.get?_push_size _ rfl), rfl, rfl⟩ fun b o x => Heap.get?_push_of_some _ (Heap.get?_push_of_some _ x)⟩
end
end PySem
namespace L2
open PySem PySem.Spec PyProof.Rows
theorem apart_cls {h : Heap} {a b : Addr} {oa ob : Obj} (ha : h.get? a = some oa) (hb : h.get? b = some ob) (hc : oa.cls ≠ ob.cls) : a ≠ b := fun z => hc (by
  subst z
  rw [ha] at hb
  cases hb
  rfl)
/-- the tuple at a as it stands, the items in new pairs with their indexes -/
def IteT (K : PySem.W.Frag) (a : Addr) : It :=
  ⟨fun i H => ∃ (xs : List V) (x : V), SqT K H a xs ∧ xs[i]? = some x, fun i H v H' => ∃ T x, v = .ref T ∧ H T = none ∧ H' = upd H T (.tup [.int (i : Nat), x]) ∧ ∀ xs, SqT K H a xs → xs[i]? = some x, fun i H => ∃ xs : List V, SqT K H a xs ∧ xs.length = i⟩
theorem turn_enumT {P : Program} {w : World} {K : PySem.W.Frag} {elts : List Expr} {kk : Nat} {tpos : Pos} (a e it : Addr) :
    Turn P w K (.Tuple elts kk tpos) (IteT K a) [e, it] e (fun i h => (∃ old, IsEnum h e it ((0 : Int) + (i : Nat)) old) ∧ h.IsTupleIter it a i ∧ e ≠ it) where
  mem := List.mem_cons_self
  obj := fun i h st b hb => by
    obtain ⟨⟨old, he⟩, ⟨o, ho, hc, hd⟩, _⟩ := st
    rcases (show b = e ∨ b = it by simpa using hb) with rfl | rfl
    · exact ⟨_, he, fun v q => nomatch q⟩
    · exact ⟨o, ho, fun v q => by rw [hd] at q; cases q⟩
  keep := fun i h h' ⟨⟨old, he⟩, hi, hne⟩ k => ⟨⟨old, k e (List.mem_cons_self) _ he⟩, hi.at fun o q => k it (by simp) o q, hne⟩
  item := by
    intro X hP hw hK hc i pins s σ H E I hf st hg
    subst hP hw hK
    obtain ⟨⟨old, he⟩, hit, hne⟩ := st
    obtain ⟨xs, x, hq, hx⟩ := hg
    obtain ⟨its, rv, p, hz⟩ := I.tuple hq
    obtain ⟨u, hu, ru⟩ := rv.get hx
    have hp : s.heap.IsTuple a its.toArray := p
    obtain ⟨oa, ha, hac, na, had⟩ := id hp
    have hae : e ≠ a := apart_cls he ha (by rw [hac]; exact fun q => by injection q with q; exact absurd q (by decide))
    have hai : a ≠ it := by
      obtain ⟨o, ho, hc', hd'⟩ := hit
      exact apart_cls ha ho (by rw [hac, hc']; exact fun q => by injection q with q; exact absurd q (by decide))
    have G := GoesN.enumFrom (prog := X.prog) (w := X.w) (A := X.A) (elts := elts) (x1 := kk) (pos := tpos) 0 (Draws.tuple (A := X.A.in1) (I.ok.hd hc) it a hai its.toArray) e hne (by simp [hne, hae]) (by simp)
    refine G.goes i s _ E ?_ ⟨⟨old, he⟩, hit, hp⟩ fun v h' tk hY hst hkeep htk => ?_
    · have z : i < its.length := (List.getElem?_eq_some_iff.mp hu).1
      simpa using z
    obtain ⟨T, t, y, rfl, hT, hy, o, hTo, hTc, nT, hTd⟩ := hY
    obtain ⟨⟨old', he'⟩, hit', hp'⟩ := hst
    have hyu : y = u := by
      have : its.toArray[i]? = some u := by simpa using hu
      rw [this] at hy
      exact (Option.some.inj hy).symm
    subst hyu
    have new : ObjOk X.prog X.w (upd H T (.tup [.int (i : Nat), x])) h' T (.tup [.int (i : Nat), x]) :=
      ⟨by show 2 ≤ sizeLine; decide, [.int ((0 : Int) + (i : Nat)) t, y], .cons ⟨t, by rw [Int.zero_add]⟩ (.cons ru .nil), ⟨o, hTo, hTc, nT, hTd⟩⟩
    have I1 : Inv X pins σ (upd H T (.tup [.int (i : Nat), x])) { s with heap := h', toks := tk } :=
      I.turnedNew (ch := [e, it]) (fun b ob hb q => hkeep b ob hb q) hf hT new
    refine ⟨.ref T, _, I1, rfl, ⟨_, x, rfl, I.hok.fresh hT, rfl, fun ys hy' => by rw [I.tuple_inj hy' hq]; exact hx⟩, ⟨⟨_, he'⟩, hit', hne⟩, fun b hb => ?_⟩
    have hb' : b < s.heap.objs.size := by
      rcases (show b = e ∨ b = it by simpa using hb) with rfl | rfl
      · exact Heap.lt_size he
      · obtain ⟨_, q, _⟩ := hit
        exact Heap.lt_size q
    rw [upd_ne (Nat.ne_of_lt (Nat.lt_of_lt_of_le hb' hT))]
    exact (hf b hb).1
  done := by
    intro X hP hw hK hc i pins s σ H E I hf st hg
    subst hP hw hK
    obtain ⟨⟨old, he⟩, hit, hne⟩ := st
    obtain ⟨xs, hq, hx⟩ := hg
    obtain ⟨its, rv, p, hz⟩ := I.tuple hq
    have hp : s.heap.IsTuple a its.toArray := p
    obtain ⟨oa, ha, hac, na, had⟩ := id hp
    have hae : e ≠ a := apart_cls he ha (by rw [hac]; exact fun q => by injection q with q; exact absurd q (by decide))
    have hai : a ≠ it := by
      obtain ⟨o, ho, hc', hd'⟩ := hit
      exact apart_cls ha ho (by rw [hac, hc']; exact fun q => by injection q with q; exact absurd q (by decide))
    have G := GoesN.enumFrom (prog := X.prog) (w := X.w) (A := X.A) (elts := elts) (x1 := kk) (pos := tpos) 0 (Draws.tuple (A := X.A.in1) (I.ok.hd hc) it a hai its.toArray) e hne (by simp [hne, hae]) (by simp)
    have hn : i = its.toArray.size := by
      have := rv.length
      simp
      omega
    subst hn
    exact wpAny_mono (G.stops s (fun s1 => Inv X pins σ H s1) E ⟨⟨old, he⟩, hit, hp⟩ fun h' tk hk htk => I.turnedL (ch := [e, it]) (fun b o hb q => hk b o hb q) hf) (fun r s1 z => z) fun _ _ z => z
  self := fun A i s Q E ⟨⟨_, he⟩, _⟩ h => wpAny_pyIter_enum he h
/-- enumerate of a list or of a tuple -/
def iEnumA (K : PySem.W.Frag) (ta : TA) : TI := fun σ H R => ta σ H fun vs H1 => ∃ a xs, vs = [.ref a] ∧ ((SqL K H1 a xs ∧ R (Ite K a) H1) ∨ (SqT K H1 a xs ∧ R (IteT K a) H1))
theorem pi_enumA {X : Cx} {e : Expr} {ta : TA} {p pos tpos : Pos} {elts : List Expr} {kk : Nat} (hg : Gl X "enumerate") (hm : X.mg "enumerate" = none) (ha : PA X [e] ta) (hs : starEach [e] X.env = [(false, eval e X.env)] := by rfl) :
    PI X (.Tuple elts kk tpos) (.Call (.Name "enumerate" p) [e] [] pos) (iEnumA X.K ta) := by
  refine ⟨fun pins s σ H R I h => ?_⟩
  refine Call_ (ld_blt I hg hm boot_enumerate (PyProof.Rows.callWith_type1 (thn (ha.run pos pins s σ H _ I h) fun us s1 ⟨vs, H1, I1, r1, q1⟩ => ?_) hs rfl))
  obtain ⟨a, xs, rfl, q1⟩ := q1
  cases r1 with
  | cons r rr =>
    cases rr
    cases r
    have old : ∀ b, b = s1.heap.objs.size + 1 ∨ b = s1.heap.objs.size → s1.heap.objs.size ≤ b := fun b z => by rcases z with rfl | rfl <;> omega
    rcases q1 with ⟨hq, q⟩ | ⟨hq, q⟩
    · obtain ⟨its, rv, p', hz⟩ := I1.list hq
      refine call_enumerate_list p'.isList fun h' he hit hsz hk => wpAny_pyIter_enum he ?_
      refine ⟨s1.heap.objs.size + 1, [s1.heap.objs.size + 1, s1.heap.objs.size], _, _, H1, rfl, I1.kept (t' := s1.toks) hk, turn_enum a (s1.heap.objs.size + 1) s1.heap.objs.size, ⟨⟨.none, he⟩, hit, Nat.succ_ne_self _⟩, fun b hb => ?_, q⟩
      have hle := old b (by simpa using hb)
      exact I1.fpOk hle (I1.hok.fresh hle)
    · obtain ⟨its, rv, p', hz⟩ := I1.tuple hq
      refine kx_call_enumT (show s1.heap.IsTuple a its.toArray from p') fun h' he hit hk => wpAny_pyIter_enum he ?_
      refine ⟨s1.heap.objs.size + 1, [s1.heap.objs.size + 1, s1.heap.objs.size], _, _, H1, rfl, I1.kept (t' := s1.toks) hk, turn_enumT a (s1.heap.objs.size + 1) s1.heap.objs.size, ⟨⟨.none, he⟩, hit, Nat.succ_ne_self _⟩, fun b hb => ?_, q⟩
      have hle := old b (by simpa using hb)
      exact I1.fpOk hle (I1.hok.fresh hle)
theorem walk_enumT {K : PySem.W.Frag} {a : Addr} {xs : List V} : Walk (IteT K a) xs.length (fun H => SqT K H a xs) (YPair (fun i => some (.int (i : Nat))) (fun i => xs[i]?)) := by
  refine ⟨fun i _ hi q => ⟨xs, xs[i], q, by simp [hi]⟩, fun _ q => ⟨xs, q, rfl⟩, fun i H v H' _ q y => ?_⟩
  obtain ⟨T, x, h1, h2, h3, h4⟩ := y
  exact ⟨T, .int (i : Nat), x, h1, h2, h3, rfl, h4 xs q⟩
/-- the loop over enumerate of a list or of a tuple -/
theorem for_enumA {K : PySem.W.Frag} {a : Addr} {xs : List V} {g : TG} {tb : TS} {D : Ends} {σ : St} {H : Hp} (hq : SqL K H a xs ∨ SqT K H a xs) (Pv : Nat → St → Hp → Prop) (h0 : Pv 0 σ H)
    (hl : SqL K H a xs → ∀ i σ' H', Pv i σ' H' → SqL K H' a xs) (ht : SqT K H a xs → ∀ i σ' H', Pv i σ' H' → SqT K H' a xs)
    (hs : ∀ i x T σ H', xs[i]? = some x → Pv i σ H' → H' T = none → g (.ref T) σ (upd H' T (.tup [.int (i : Nat), x])) fun σ2 H2 => tb { D with nx := Pv (i + 1), ct := Pv (i + 1), bk := D.nx } σ2 H2) (hd : ∀ σ H', Pv xs.length σ H' → D.nx σ H') :
    (SqL K H a xs ∧ ∃ W : Nat → Nat → St → Hp → Prop, (∃ m, W 0 m σ H) ∧ ∀ i m σ H, W i m σ H →
      ((Ite K a).stop i H ∧ D.nx σ H) ∨ ((Ite K a).go i H ∧ ∃ N : St → Hp → Prop, (∀ σ' H', N σ' H' → ∃ m', m' < m ∧ W (i + 1) m' σ' H') ∧ ∀ x H', (Ite K a).yld i H x H' → g x σ H' fun σ2 H2 => tb { D with nx := N, ct := N, bk := D.nx } σ2 H2)) ∨
    (SqT K H a xs ∧ ∃ W : Nat → Nat → St → Hp → Prop, (∃ m, W 0 m σ H) ∧ ∀ i m σ H, W i m σ H →
      ((IteT K a).stop i H ∧ D.nx σ H) ∨ ((IteT K a).go i H ∧ ∃ N : St → Hp → Prop, (∀ σ' H', N σ' H' → ∃ m', m' < m ∧ W (i + 1) m' σ' H') ∧ ∀ x H', (IteT K a).yld i H x H' → g x σ H' fun σ2 H2 => tb { D with nx := N, ct := N, bk := D.nx } σ2 H2)) := by
  rcases hq with q | q
  · refine .inl ⟨q, for_it (walk_enum (K := K) (a := a) (xs := xs)) Pv h0 (fun i σ' H' _ p => hl q i σ' H' p) ?_ hd⟩
    rintro i x σ' H1 H2 hi p ⟨T, x1, y, rfl, hT, rfl, e1, e2⟩
    cases e1
    exact hs i y T σ' H1 e2 p hT
  · refine .inr ⟨q, for_it (walk_enumT (K := K) (a := a) (xs := xs)) Pv h0 (fun i σ' H' _ p => ht q i σ' H' p) ?_ hd⟩
    rintro i x σ' H1 H2 hi p ⟨T, x1, y, rfl, hT, rfl, e1, e2⟩
    cases e1
    exact hs i y T σ' H1 e2 p hT
end L2

/-! tuple of a dict -/
namespace PySem
open Sem (wp)
open AutoSeq1 (wpAny_loadPart')
open PySem.W
section
variable {prog : Program} {w : World} {A : Around} {E : Value → Shared → Prop} {s : Shared} {T : String} {r d : Addr} {n : Nat} {P : Nat → Value → Prop} {OK : Heap → Prop}
theorem kx_collect {Q : List Value → Shared → Prop} (S : KdlSrc prog w T r d n P OK) (hh : A.handled = none) (hok : OK s.heap) (hn : n ≤ sizeLine)
    (hQ : ∀ h' tk (acc : Array Value), s.heap.objs.size < h'.objs.size → (∀ b o, s.heap.get? b = some o → h'.get? b = some o) → ItemsOf P acc n → Q acc.toList { s with heap := h', toks := tk }) :
    wpAny (model prog w) A (collect (.ref r)) Q E s := by
  unfold collect
  refine wpAny_bind (wpAny_runValue (codeAny_builtin F.entry_proto_collect ?_))
  rw [Around.under_plainId F.plain_proto_collect _]
  show wpAny _ A.in1 (newList [] >>= fun l => again (.builtin "list.__iadd__" ⟨[l, .ref r], []⟩)) _ _ s
  refine wpAny_bind (wpAny_newObj_type ?_)
  refine wpAny_pure ⟨plainId_quiet F.plain_list_iadd _, codeAny_builtin F.entry_list_iadd ?_⟩
  rw [Around.under_plainId F.plain_list_iadd _]
  show wpAny _ A.in1 (Builtin.List.listExtendWith (.ref s.heap.objs.size) (.ref r) (.ref s.heap.objs.size)) _ _ _
  have hS : (s.heap.push { cls := .type "list", data := .seq ([] : List Value).toArray }).get? s.heap.objs.size = some { cls := .type "list", data := .seq #[] } := Heap.get?_push_size _ rfl
  have hlt := S.there _ hok
  have key : ∀ h' tk (acc : Array Value) c, (∀ b o, b ≠ s.heap.objs.size → (s.heap.push { cls := .type "list", data := .seq ([] : List Value).toArray }).get? b = some o → h'.get? b = some o) → h'.get? s.heap.objs.size = some { cls := .type "list", dict := none, data := .seq acc c, slots := #[] } → ItemsOf P acc n →
      Q acc.toList { s with heap := h', toks := tk } := fun h' tk acc c hk hS' hacc => hQ h' tk acc (Heap.lt_size hS') (fun b o e => hk b o (Nat.ne_of_lt (Heap.lt_size e)) (Heap.get?_push_of_some _ e)) hacc
  refine wpAny_mono (kdl_extend (s := { s with heap := s.heap.push { cls := .type "list", data := .seq ([] : List Value).toArray } }) (R := fun r s' => ∃ h' tk acc c, r = .ok (.ret (.ref s.heap.objs.size)) ∧ s' = { s with heap := h', toks := tk } ∧ h'.get? s.heap.objs.size = some { cls := .type "list", dict := none, data := .seq acc c, slots := #[] } ∧ Q acc.toList { s with heap := h', toks := tk })
    S hh (S.keep s.heap _ hok fun b _ o e => Heap.get?_push_of_some _ e) s.heap.objs.size (Nat.ne_of_gt hlt.1) (Nat.ne_of_gt hlt.2) (.ref s.heap.objs.size) 0 hS (fun h' tk acc c hk hS' hacc => ⟨h', tk, acc, c, rfl, rfl, hS', key h' tk acc c hk hS' hacc⟩) hn) (fun fin s' z => ?_) fun e s' z => ?_
  · cases fin with
    | done f =>
      obtain ⟨h', tk, acc, c, hf, rfl, hS', hq⟩ := z
      cases hf
      exact wpAny_bind (wpAny_load hS' (wpAny_pure hq))
    | again c' =>
      refine ⟨z.1, codeAny_mono z.2 fun r s'' z' => ?_⟩
      obtain ⟨h', tk, acc, c, rfl, rfl, hS', hq⟩ := z'
      exact wpAny_bind (wpAny_load hS' (wpAny_pure hq))
  · obtain ⟨h', tk, acc, c, hf, _⟩ := z
    cases hf
theorem kx_tuple_newIn (S : KdlSrc prog w T r d n P OK) (hne : (Value.type T == Value.type "tuple") = false) (hn : n ≤ sizeLine) :
    MeetsIn prog w (Builtin.«tuple.__new__» ⟨[.type "tuple", .ref r], []⟩) (fun A R s => A.handled = none ∧ OK s.heap ∧ ∀ (h' : Heap) (tk : Nat) (acc : Array Value), s.heap.objs.size < h'.objs.size → (∀ b o, s.heap.get? b = some o → h'.get? b = some o) → ItemsOf P acc n →
        R (.ok (.ret (.ref h'.objs.size))) { s with heap := h'.push { cls := .type "tuple", data := .seq acc }, toks := tk }) :=
  .of_wp fun A R s h => by
    obtain ⟨hh, hok, h⟩ := h
    have hsub := sub_tuple_self
    have hinit := init_tuple_lookup
    have hmh := madeHere_tuple
    have hT : s.TypeIs (.ref r) T := S.type s hok
    have hh1 : A.in1.handled = none := hh
    wp_walk using wpAny_typeOf hT, kx_collect S hh1 hok hn
    intro h' tk acc hlt hk hacc
    show wpAny _ _ (Builtin.Tuple.tupleExact acc.toList.toArray >>= fun v => ret v) _ _ _
    unfold Builtin.Tuple.tupleExact
    refine wpAny_bind (wpAny_newObj_type ?_ (show acc.toList.toArray.size ≤ sizeLine by rw [Array.toArray_toList, hacc.1]; exact hn))
    refine wpAny_pure ⟨_, rfl, ?_⟩
    rw [show acc.toList.toArray = acc from Array.toArray_toList]
    exact h h' tk acc hlt hk hacc
theorem kx_call_tupleK {Q : Value → Shared → Prop} (S : KdlSrc prog w T r d n P OK) (hne : (Value.type T == Value.type "tuple") = false) (hn : n ≤ sizeLine) (hh : A.handled = none) (hok : OK s.heap)
    (h : ∀ (h' : Heap) (tk : Nat) (acc : Array Value), s.heap.objs.size < h'.objs.size → (∀ b o, s.heap.get? b = some o → h'.get? b = some o) → ItemsOf P acc n → Q (.ref h'.objs.size) { s with heap := h'.push { cls := .type "tuple", data := .seq acc }, toks := tk }) :
    wpAny (model prog w) A (call (.type "tuple") [.ref r]) Q E s :=
  callType_newIn F.called_tuple (by decide) (F.typeCall_tuple_1 _) (F.newCall_tuple_1 _) (fun obj => F.args_object_init_2 obj _) F.entry_tuple_new (kx_tuple_newIn S hne hn)
    ⟨hh, hok, fun h' tk acc hlt hk hacc => ⟨⟨_, Heap.get?_push_size _ rfl, rfl⟩, h h' tk acc hlt hk hacc⟩⟩
end
end PySem
namespace L2
open PySem PySem.Spec PyProof.Rows
/-- tuple(d): the keys in a new tuple -/
def rTupD : List V → Hp → VK → Prop := fun xs H Q => ∃ p kvs, xs = [.ref p] ∧ H p = some (.dK kvs) ∧ ∀ q, H q = none → Q (.ref q) (upd H q (.tup (kvs.map fun kv => kV kv.1)))
theorem call_tuple_dK {X : Cx} (hc : X.calm = true) : CallR X (.type "tuple") rTupD := by
  intro pins s σ H xs us Q I r h
  obtain ⟨p, kvs, rfl, hk, q⟩ := h
  obtain ⟨u, rfl, rx⟩ := vals1 r
  obtain rfl : u = Value.ref p := rx
  obtain ⟨z, lo, vs, rk, hd⟩ := (show ObjOk X.prog X.w H s.heap p (.dK kvs) from I.hok p _ hk)
  obtain ⟨ep, hat⟩ := hd.dictAt
  have hl : kvs.length = vs.length := Paired.length rk
  refine kx_call_tupleK (PySem.W.kdl_dict (knd := mixKind X.prog X.w) (kvs := vs) (ep := ep) lo) (by decide) (by rw [← hl]; exact z) (I.ok.hd hc) hat fun h' tk acc hgrow hkeep hacc => ?_
  have hsz : s.heap.objs.size ≤ h'.objs.size := Nat.le_of_lt hgrow
  have nn : H h'.objs.size = none := I.hok.fresh hsz
  have ho : ObjOk X.prog X.w (upd H h'.objs.size (.tup (kvs.map fun kv => kV kv.1))) (h'.push { cls := .type "tuple", data := .seq acc }) h'.objs.size (.tup (kvs.map fun kv => kV kv.1)) := by
    refine ⟨by rw [List.length_map]; exact z, acc.toList, ?_, ⟨_, Heap.get?_push_size _ rfl, rfl, 0, by rw [Array.toArray_toList]⟩⟩
    have el : acc.toList.length = acc.size := by simp
    refine vals_of_at (by rw [List.length_map, el, hacc.1, hl]) fun j x w h1 h2 => ?_
    obtain ⟨k, y, hky, hi⟩ := hacc.2 j w (by rw [← Array.getElem?_toList]; exact h2)
    have e1 : (kvs.map (·.1))[j]? = some k := by
      rw [KV.keys rk, List.getElem?_map, hky] <;> rfl
    have e3 : (kvs.map fun kv => kV kv.1) = (kvs.map (·.1)).map kV := by rw [List.map_map] <;> rfl
    rw [e3, List.getElem?_map, e1] at h1
    cases h1
    exact keyIs_rel hi
  exact ⟨.ref h'.objs.size, _, I.laid (fun b o e => Heap.get?_push_of_some _ (hkeep b o e)) hsz ho, rfl, q _ nn⟩
end L2

/-! isinstance of a def of the text -/
namespace PySem
open Sem (wp)
namespace KXF
theorem slot_fn_ga : Slot "function" "__getattribute__" "object.__getattribute__" :=
  .of (owner := "object") (n := "__getattribute__") (by rw [typeLookup_type, builtinLookup_eq_fast]; kernel_rfl) (by decide +kernel) (by decide +kernel) (by decide +kernel)
    (by first | exact .inl (by decide +kernel) | exact .inr (by decide +kernel)) (by rw [isSubtype_type]; kernel_rfl)
theorem entry_obj_ga : entryFor table "object.__getattribute__" = some Builtin.«object.__getattribute__» := entryFor_of_tree (by kernel_rfl)
theorem args_obj_ga (a b : Value) : argsOk "object.__getattribute__" ⟨[a, b], []⟩ := by unfold argsOk; kernel_rfl
theorem lk_fn_class : typeLookup (.type "function") "__class__" = pure (some (.builtin "object.__class__")) := by rw [typeLookup_type, builtinLookup_eq_fast]; kernel_rfl
theorem sub_fn_owner : isSubtype (.type "function") (.type (".".intercalate ("object.__class__".cutAt '.').dropLast)) = pure true := by
  rw [F.owner_object_class, isSubtype_type]; kernel_rfl
end KXF
section
variable {prog : Program} {w : World} {A : Around} {E : Value → Shared → Prop} {h : Heap} {g : Array GenState} {d : Drawn} {t : Nat} {os : OsState} {a : Addr} {o : Obj}
theorem kxf_get {R : Result → Shared → Prop} (hx : h.get? a = some o) (hc : o.cls = .type "function") (hq : R (.ok (.ret (.type "function"))) ⟨h, g, d, t, os⟩) :
    codeAny (model prog w) A (.call (.builtin "getset_descriptor.__get__") ⟨[.builtin "object.__class__", .ref a, .type "function"], []⟩) R ⟨h, g, d, t, os⟩ := by
  have hT : (⟨h, g, d, t, os⟩ : Shared).TypeIs (.ref a) "function" := ⟨_, hx, hc⟩
  have f8 := KXF.sub_fn_owner
  refine codeAny_call_builtin F.slot_gs_get.plain F.entry_gs_get (F.slot_gs_get.check _ _ _ _ _ _ _ _ (show (⟨h, g, d, t, os⟩ : Shared).TypeIs (.builtin "object.__class__") "getset_descriptor" from F.typeOf_object_class) (F.args_gs_get _ _ _) ?_)
  repeat (any_goals (first | wp_step | assumption))
  refine ⟨Code.quiet_builtin _ (by decide +kernel), codeAny_builtin F.entry_object_class ?_⟩
  repeat (any_goals (first | wp_step | assumption))
theorem kxf_entry {tk : Tok} {Q : Fin → Shared → Prop} (hx : h.get? a = some o) (hc : o.cls = .type "function") (hq : Q (.done (.ret (.type "function"))) ⟨h, g, d, t, os⟩) :
    wpAny (model prog w) A (Builtin.«object.__getattribute__» ⟨[.ref a, .str "__class__" tk], []⟩) Q E ⟨h, g, d, t, os⟩ := by
  have hT : (⟨h, g, d, t, os⟩ : Shared).TypeIs (.ref a) "function" := ⟨_, hx, hc⟩
  have f4 := KXF.lk_fn_class
  have f5 := F.typeOf_object_class
  have hT5 : (⟨h, g, d, t, os⟩ : Shared).TypeIs (.builtin "object.__class__") "getset_descriptor" := f5
  have f6 := F.slot_gs_get.lookup
  have f7 := F.slot_gs_set.lookup
  repeat (any_goals (first | wp_step | assumption))
  refine kxf_get hx hc ?_
  repeat (any_goals (first | wp_step | assumption))
theorem kxf_call {tk : Tok} {R : Result → Shared → Prop} (hx : h.get? a = some o) (hc : o.cls = .type "function") (hq : R (.ok (.ret (.type "function"))) ⟨h, g, d, t, os⟩) :
    codeAny (model prog w) A (.call (.builtin "object.__getattribute__") ⟨[.ref a, .str "__class__" tk], []⟩) R ⟨h, g, d, t, os⟩ :=
  codeAny_call_builtin KXF.slot_fn_ga.plain KXF.entry_obj_ga (KXF.slot_fn_ga.check _ _ _ _ _ _ _ _ (show (⟨h, g, d, t, os⟩ : Shared).TypeIs (.ref a) "function" from ⟨_, hx, hc⟩) (KXF.args_obj_ga _ _) (kxf_entry hx hc hq))
theorem kxf_by {tk : Tok} {Q : Value → Shared → Prop} (hx : h.get? a = some o) (hc : o.cls = .type "function") (hq : Q (.type "function") ⟨h, g, d, t, os⟩) : wpAny (model prog w) A (getAttrBy (.ref a) (.str "__class__" tk) false) Q E ⟨h, g, d, t, os⟩ := by
  have hT : (⟨h, g, d, t, os⟩ : Shared).TypeIs (.ref a) "function" := ⟨_, hx, hc⟩
  have f2 := KXF.slot_fn_ga.lookup
  have f3 := KXF.slot_fn_ga.bind (.ref a)
  repeat (any_goals (first | wp_step | assumption))
  refine kxf_call hx hc ?_
  repeat (any_goals (first | wp_step | assumption))
theorem kxf_attr {Q : Option Value → Shared → Prop} (hx : h.get? a = some o) (hc : o.cls = .type "function") (hq : Q (some (.type "function")) ⟨h, g, d, t + 1, os⟩) : wpAny (model prog w) A (getAttr? (.ref a) "__class__") Q E ⟨h, g, d, t, os⟩ := by
  unfold getAttr? getAttrBy?
  repeat (any_goals (first | with_reducible apply kxf_by hx hc | wp_step | assumption))
end
namespace W
theorem kitx_fn {K : Frag} {a : Addr} : KitX K (.ref a) (.type "function") (KitAt a "function") :=
  kitx_of kitAt_ty (fun {_ _ _ _ _ s} p k => by obtain ⟨h, g, d, t, os⟩ := s; obtain ⟨o, h1, h2⟩ := p; exact kxf_attr h1 h2 k)
end W
end PySem
namespace L2
open PySem PySem.Spec PyProof.Rows
/-- a value's type: as TyX tells, or a def of the text -/
inductive TyZ (K : PySem.W.Frag) (H : Hp) : V → Value → Prop where
  | x {v : V} {t : Value} (h : TyX K H v t) : TyZ K H v t
  | fn {a : Addr} {o : Obj} (e : K.lookup a = some o) (c : o.cls = .type "function") : TyZ K H (.ref a) (.type "function")
section
variable {X : Cx} {pins : List (Addr × Obj)} {σ : St} {H : Hp} {s : Shared}
theorem kit_ofZ {x : V} {u t : Value} (I : Inv X pins σ H s) (rx : RelV x u) (ty : TyZ X.K H x t) : ∃ P : Heap → Prop, PySem.W.KitX X.K u t P ∧ P s.heap ∧ u ≠ .builtin "__main__.__loader__#opaque" := by
  cases ty with
  | x h => exact kit_of I rx h
  | @fn a o e c =>
    cases (show u = Value.ref a from rx)
    exact ⟨_, PySem.W.kitx_fn, ⟨o, I.kIn a o e, c⟩, fun z => nomatch z⟩
end
/-- isinstance(x, c); isinstance(x, (c1, c2, ..)) -/
def rIsiZ (K : PySem.W.Frag) : List V → Hp → VK → Prop := fun xs H Q => ∃ (x c : V) (t u : Value) (b : Bool), xs = [x, c] ∧ ClsV c u ∧ TyZ K H x t ∧ PySem.W.kitOne K t u = some b ∧ Q (.bl b) H
def rIsiTZ (K : PySem.W.Frag) : List V → Hp → VK → Prop := fun xs H Q => ∃ (x : V) (tp : Addr) (cs : List V) (t : Value) (us : List Value) (b : Bool), xs = [x, .ref tp] ∧ H tp = some (.tup cs) ∧ Paired ClsV cs us ∧ TyZ K H x t ∧ PySem.W.kitAny K t us = some b ∧ Q (.bl b) H
section
variable {X : Cx}
theorem call_isiZ : CallR X (.builtin "isinstance") (rIsiZ X.K) := by
  intro pins s σ H xs us Q I r h
  obtain ⟨x, c, t, u, b, rfl, k, ty, e, q⟩ := h
  obtain ⟨u1, u2, rfl, r1, r2⟩ := vals2 r
  have e2 := k.eq r2
  subst e2
  obtain ⟨P, Z, p, hx⟩ := kit_ofZ I r1 ty
  exact PySem.W.kia_one Z I.kIn p e hx fun tk => ⟨.bl b, H, I.tok tk, rfl, q⟩
theorem call_isiTZ : CallR X (.builtin "isinstance") (rIsiTZ X.K) := by
  intro pins s σ H xs us Q I r h
  obtain ⟨x, tp, cs, t, ws, b, rfl, hT, k, ty, e, q⟩ := h
  obtain ⟨u1, u2, rfl, r1, r2⟩ := vals2 r
  cases (show u2 = Value.ref tp from r2)
  obtain ⟨P, Z, p, hx⟩ := kit_ofZ I r1 ty
  obtain ⟨_, its, rv, o, h1, h2, n, h3⟩ := (show ObjOk X.prog X.w H s.heap tp (.tup cs) from I.hok tp _ hT)
  have e3 := ClsV.all k rv
  subst e3
  obtain ⟨oc, od, dt, sl⟩ := o
  simp only at h2 h3
  subst h2 h3
  exact PySem.W.kia_tup Z I.kIn p h1 e hx fun tk => ⟨.bl b, H, I.tok tk, rfl, q⟩
end
end L2

/-! own == and its != against anything -/
namespace PySem.W
open PySem PySem.Spec PySem.Calls PyProof.Rows PyProof.V
section
variable {prog : Program} {w : World} {A : Around} {E : Value → Shared → Prop} {s : Shared} {K : Frag} {x C f : Addr} {ox : Obj} {od : Option Obj} {b tb : Value}
/-- object.__ne__ bound to an instance and called -/
theorem kxe_special {Q : Option Value → Shared → Prop} (X : K.In s.heap) (I : InstAt s.heap x ox C od) (hs : findIn K (.ref C) "__ne__" = some (some (.builtin "object.__ne__")))
    (h : wpAny (model prog w) A (call (.builtin "object.__ne__") [.ref x, b]) (fun v => Q (some v)) E s) : wpAny (model prog w) A (callSpecialIfBound? (.ref x) "__ne__" [b]) Q E s := by
  simp only [callSpecialIfBound?, bindSpecialIfBound?]
  refine wpAny_holding (wpAny_bind (wpAny_bind (wpAny_bind (I.type.here ((looks_findIn X hs).here (wpAny_bind (wpAny_askSetting (wpAny_ite ?_))))))))
  have bn : bindSpecial (.builtin "object.__ne__") (.ref x) = pure (.builtin "object.__ne__", [.ref x]) := F.cmp_object.ne.bind (.ref x)
  have fin : wpAny (model prog w) A (call (.builtin "object.__ne__") ([.ref x] ++ [b]) >>= fun v => pure (some v)) Q E s := wpAny_bind (wpAny_mono h (fun v s' h' => wpAny_pure h') fun _ _ h' => h')
  split
  · exact wpAny_bind (wpAny_of_eq bn (wpAny_pure (by exact fin)))
  · exact wpAny_tryCatch (wpAny_bind (wpAny_of_eq bn (wpAny_pure (by exact fin))))
theorem kxe_obj_ne {Q : Fin → Shared → Prop} (hu : A.units < cLine) (X : K.In s.heap) (I : InstAt s.heap x ox C od) (he : findIn K (.ref C) "__eq__" = some (some (.ref f))) (hf : isFn K (.ref f) = true)
    (h : wpAny (model prog w) A (call (.ref f) [.ref x, b]) (fun v s' => ∃ k, v = .bool k ∧ Q (.done (.ret (.bool (!k)))) s') E s) :
    wpAny (model prog w) A (Builtin.«object.__ne__» ⟨[.ref x, b], []⟩) Q E s := by
  unfold Builtin.«object.__ne__»
  repeat (first
    | with_reducible refine wpAny_cRoomFor hu ?_
    | (refine wpAny_bind (m := callSpecialIfBound? (.ref x) (Str.ofString "__eq__") [b]) (ifBound_K X I he hf (wpAny_mono h (fun r s' hr => by
          obtain ⟨k, rfl, hq⟩ := hr
          repeat (first | exact hq | exact wpAny_pure hq | exact wpAny_truthy_bool hq | (refine wpAny_bind (m := truthy (.bool _)) (wpAny_truthy_bool ?_)) | wp_step)) fun _ _ e => e)))
    | wp_step)
theorem kxe_call {Q : Value → Shared → Prop} (hu : A.units + 1 < cLine) (X : K.In s.heap) (I : InstAt s.heap x ox C od) (he : findIn K (.ref C) "__eq__" = some (some (.ref f))) (hf : isFn K (.ref f) = true) (ho : mroIn K C (.type "object") = some true)
    (h : wpAny (model prog w) A.in1 (call (.ref f) [.ref x, b]) (fun v s' => ∃ k, v = .bool k ∧ Q (.bool (!k)) s') E s) :
    wpAny (model prog w) A (call (.builtin "object.__ne__") [.ref x, b]) Q E s := by
  refine wpAny_call (codeAny_call_builtin F.cmp_object.ne.plain F.cmpEntry_ne (check_slot F.cmpKind_ne F.cmpSplit_ne (I.type.andThen (looks_mroIn X ho)) (F.cmpArgs_ne _ _) ?_))
  refine kxe_obj_ne (A := A.in1) hu X I he hf (wpAny_mono h (fun v s' hv => ?_) fun _ _ e => e)
  obtain ⟨k, rfl, hq⟩ := hv
  exact ⟨k, rfl, hq⟩
/-- x != b, x an instance whose class has its own == and object's != -/
theorem kxe_rich {Q : Value → Shared → Prop} (hu : A.units + 1 < cLine) (X : K.In s.heap) (I : InstAt s.heap x ox C od) (hb : Looks (model prog w) s.heap (typeOf b) tb) (hn : notFirst K C tb = true)
    (hs : findIn K (.ref C) "__ne__" = some (some (.builtin "object.__ne__"))) (he : findIn K (.ref C) "__eq__" = some (some (.ref f))) (hf : isFn K (.ref f) = true) (ho : mroIn K C (.type "object") = some true)
    (h : wpAny (model prog w) A.in1 (call (.ref f) [.ref x, b]) (fun v s' => ∃ k, v = .bool k ∧ Q (.bool (!k)) s') E s) : wpAny (model prog w) A (richCompare .NotEq (.ref x) b) Q E s := by
  have one : wpAny (model prog w) A (tryCompare (.ref x) (cmpInfo .NotEq).2.1 b) (fun r s' => ∃ v, r = some v ∧ Q v s') E s := by
    unfold tryCompare
    refine wpAny_bind (kxe_special X I hs (kxe_call hu X I he hf ho (wpAny_mono h (fun v s' hv => ?_) fun _ _ e => e)))
    obtain ⟨k, rfl, hq⟩ := hv
    exact ⟨k, rfl, wpAny_pure ⟨_, rfl, hq⟩⟩
  unfold richCompare
  simp only [oneThing_ref]
  refine wpAny_holding (wpAny_bind (wpAny_cRoomFor (Nat.lt_of_succ_lt hu) (wpAny_bind (I.type.here (wpAny_bind (hb.here ?_))))))
  split
  · rename_i q
    have e : subIn K tb (.ref C) = some false := (Bool.or_eq_true_iff.mp hn).elim (fun e => absurd q (by rw [beq_iff_eq.mp e]; simp)) fun e => beq_iff_eq.mp e
    refine wpAny_bind ((looks_subIn X e).here ?_)
    rw [if_neg Bool.false_ne_true]
    exact wpAny_bind (wpAny_mono one (fun r s' ⟨v, hv, hq⟩ => by subst hv; exact wpAny_pure hq) fun _ _ e => e)
  · refine wpAny_bind (wpAny_pure ?_)
    rw [if_neg Bool.false_ne_true]
    exact wpAny_bind (wpAny_mono one (fun r s' ⟨v, hv, hq⟩ => by subst hv; exact wpAny_pure hq) fun _ _ e => e)
end
end PySem.W
namespace L2
open PySem PySem.Spec PyProof.Rows
/-- an instance of C against anything: what the class's == promises, its answer b told as g b -/
def rOwn (K : PySem.W.Frag) (C : Addr) (sp : Sp) (E : XK) (g : Bool → Bool) : R2 := fun x y H Q => ∃ (a dx : Addr) (fs : List (Str × V)) (t : Value), x = .ref a ∧ H a = some (.ins C dx fs) ∧ TyZ K H y t ∧ PySem.W.notFirst K C t = true ∧
  sp [.ref a, y] H (fun v H' => ∃ b, v = .bl b ∧ Q (.bl (g b)) H') E
section
variable {X : Cx} {CX : CXT} {n : Nat} {C f : Addr} {fd : FuncData} {ps : List Str} {sp : Sp} {E : XK}
theorem own_run (F : FnOk X.prog X.w X.K X.mg X.base CX n f fd ps sp) (hb : Binds X.K fd ps []) (hx : Passes CX X E) {A : Around} {pins : List (Addr × Obj)} {σ : St} {H : Hp} {s : Shared} {a : Addr} {y : V} {u : Value} {g : Bool → Bool} {Q : VK}
    (hr : Room n A) (hA : A.frames = X.A.frames) (I : Inv X pins σ H s) (ry : RelV y u) (h : sp [.ref a, y] H (fun v H' => ∃ b, v = .bl b ∧ Q (.bl (g b)) H') E) :
    wpAny (model X.prog X.w) A (call (.ref f) [.ref a, u]) (fun v s' => ∃ b, v = .bool b ∧ EP X pins σ Q (.bool (g b)) s') X.xe s := by
  have hl := F.len _ _ _ _ h
  have e0 : Env0 X.prog X.w X.K X.mg X.base A X.stack s H := by
    have e := I.env0
    exact ⟨hA.trans e.frames, e.mod, e.bs, e.bsz, e.funs, e.frf, e.hok, e.bare⟩
  refine wpAny_call (codeAny_mono (F.run A X.stack s H ⟨[.ref a, u], []⟩ [.ref a, u] [.ref a, y] _ E hr e0 ?_ (.cons rfl (.cons ry .nil)) h) fun r s' hq => ?_)
  · have z := hb s [.ref a, u] I.kIn (by simpa using hl)
    simpa using z
  · cases r with
    | error e => exact hx pins σ H s e s' I hq
    | ok fl =>
      cases fl with
      | ret w =>
        obtain ⟨z, H', I', rz, b, ez, q⟩ := I.after hq
        subst ez
        cases rz
        exact ⟨b, rfl, .bl (g b), H', I', rfl, q⟩
      | next => exact False.elim hq
      | brk => exact False.elim hq
      | cont => exact False.elim hq
theorem op_eqO (F : FnOk X.prog X.w X.K X.mg X.base CX n f fd ps sp) (hr : Room n X.A) (hb : Binds X.K fd ps []) (hx : Passes CX X E)
    (hs : PySem.W.findIn X.K (.ref C) "__eq__" = some (some (.ref f))) (hf : PySem.W.isFn X.K (.ref f) = true) : OpR X (compareOp .Eq) (rOwn X.K C sp E id) := by
  intro pins s σ H x y v u Q I rx ry hq
  obtain ⟨a, dx, fs, t, rfl, ha, ty, hn, h⟩ := hq
  cases rx
  obtain ⟨mA, J, _⟩ := ins_get I.hok ha
  obtain ⟨od, J, _⟩ := J.look
  obtain ⟨m, hF⟩ := I.fr
  obtain ⟨P, Z, p, _⟩ := kit_ofZ I ry ty
  show wpAny (model X.prog X.w) X.A (richCompare .Eq (.ref a) u) (EP X pins σ Q) X.xe s
  refine PySem.W.cmp_K (op := .Eq) (tb := t) hr.units0 hF I.ok.mod.kin J (Z.ty _ _ I.kIn p) hn hs hf (wpAny_mono (own_run (g := id) F hb hx hr rfl I ry h) (fun v' s' z => ?_) fun _ _ e => e)
  obtain ⟨b, rfl, q⟩ := z
  exact q
theorem op_neO (F : FnOk X.prog X.w X.K X.mg X.base CX n f fd ps sp) (hr : Room (n + 1) X.A) (hb : Binds X.K fd ps []) (hx : Passes CX X E)
    (hs : PySem.W.findIn X.K (.ref C) "__eq__" = some (some (.ref f))) (hf : PySem.W.isFn X.K (.ref f) = true) (hne : PySem.W.findIn X.K (.ref C) "__ne__" = some (some (.builtin "object.__ne__"))) (ho : PySem.W.mroIn X.K C (.type "object") = some true) :
    OpR X (compareOp .NotEq) (rOwn X.K C sp E not) := by
  intro pins s σ H x y v u Q I rx ry hq
  obtain ⟨a, dx, fs, t, rfl, ha, ty, hn, h⟩ := hq
  cases rx
  obtain ⟨mA, J, _⟩ := ins_get I.hok ha
  obtain ⟨od, J, _⟩ := J.look
  obtain ⟨P, Z, p, _⟩ := kit_ofZ I ry ty
  show wpAny (model X.prog X.w) X.A (richCompare .NotEq (.ref a) u) (EP X pins σ Q) X.xe s
  refine PySem.W.kxe_rich (tb := t) (by have := hr.units; omega) I.kIn J (Z.ty _ _ I.kIn p) hn hne hs hf ho (wpAny_mono (own_run (g := not) (A := X.A.in1) F hb hx hr.in1 rfl I ry h) (fun v' s' z => ?_) fun _ _ e => e)
  obtain ⟨b, rfl, q⟩ := z
  exact ⟨b, rfl, q⟩
end
end L2

namespace RK
open PySem L2
def top (i : Nat) : Stmt := PySem.Challenge.pw_ringwalkers_k45_whole_photos_and_laps.main.body.getD i (.Pass ⟨0, 0, 0, 0⟩)
abbrev sIsInt : Stmt := top 10
abbrev sIsNumber : Stmt := top 11
abbrev sIsList : Stmt := top 12
abbrev sIsListOf : Stmt := top 13
abbrev sIsName : Stmt := top 14
abbrev sIsWalker : Stmt := top 15
abbrev sDictOf : Stmt := top 16
abbrev sStranger : Stmt := top 17
abbrev sStanding : Stmt := top 19
abbrev sNeedSt : Stmt := top 21
abbrev sInit : Stmt := inClass (top 23) 0
abbrev sWalkers : Stmt := inClass (top 23) 1
abbrev sEq : Stmt := inClass (top 23) 2
abbrev sWalkersOf : Stmt := top 24
abbrev sNeedPhoto : Stmt := top 29
abbrev sIsPhoto : Stmt := top 30
abbrev sRestsIn : Stmt := top 31
abbrev sTurnedBy : Stmt := top 32
abbrev sPhotoOf : Stmt := top 34
abbrev sIsPhotoP : Stmt := top 35
abbrev sLapsOf : Stmt := top 36
abbrev sStOfLaps : Stmt := top 37
abbrev sPhotoTurned : Stmt := top 38
abbrev sCell : Stmt := top 40
abbrev sSource : Stmt := top 41
abbrev sDrawB : Stmt := top 42
abbrev sPickB : Stmt := top 43
abbrev sMixedB : Stmt := top 44
abbrev sSameB : Stmt := top 45
abbrev sWNames : Stmt := top 46
abbrev sWPath : Stmt := top 47
abbrev sWPlaces : Stmt := top 48
abbrev sWFar : Stmt := top 49
abbrev sWDict : Stmt := top 50
abbrev sWHand : Stmt := top 51
abbrev sOddSt : Stmt := top 52
abbrev sOddPa : Stmt := top 53
abbrev sWLap : Stmt := top 54
abbrev sWPhoto : Stmt := top 55
abbrev sOddPh : Stmt := top 56
abbrev sMet : Stmt := top 57
abbrev sStandsR : Stmt := top 58
abbrev sOddsR : Stmt := top 59
abbrev sLaw : Stmt := top 60
/-! ### the built-ins and constants of the top -/
structure B0 (K : PySem.W.Frag) (mg : Str → Option Value) : Prop where
  isi : mg "isinstance" = none
  list : mg "list" = none
  tuple : mg "tuple" = none
  str : mg "str" = none
  len : mg "len" = none
  all : mg "all" = none
  any : mg "any" = none
  enum : mg "enumerate" = none
  int : mg "int" = none
  range : mg "range" = none
  dict : mg "dict" = none
  bool : mg "bool" = none
  zip : mg "zip" = none
  first : ∃ t, mg "FIRST_SIGNS" = some (.str "abcdefghijklmnopqrstuvwxyz" t)
  later : ∃ t, mg "LATER_SIGNS" = some (.str "abcdefghijklmnopqrstuvwxyz0123456789" t)
  longest : ∃ t, mg "LONGEST_NAME" = some (.int 8 t)
/-! ### things of all kinds -/
inductive Kd | non | int | bool | str | list | tup | dict | fn
def Kd.nm : Kd → String
  | .non => "NoneType" | .int => "int" | .bool => "bool" | .str => "str" | .list => "list" | .tup => "tuple" | .dict => "dict" | .fn => "function"
def Kd.isSeq : Kd → Bool
  | .list => true | .tup => true | _ => false
def Kd.isStr : Kd → Bool
  | .str => true | _ => false
def Kd.isList : Kd → Bool
  | .list => true | _ => false
def Kd.isTup : Kd → Bool
  | .tup => true | _ => false
def Kd.isDict : Kd → Bool
  | .dict => true | _ => false
def Kd.isBool : Kd → Bool
  | .bool => true | _ => false
inductive Th (K : PySem.W.Frag) (H : Hp) : V → Kd → Prop where
  | non : Th K H .non .non
  | int (i : Int) : Th K H (.int i) .int
  | bl (b : Bool) : Th K H (.bl b) .bool
  | str {z : Str} (h : z.length ≤ 1000) : Th K H (.str z) .str
  | lst {a : Addr} {xs : List V} (e : H a = some (.lst xs)) : Th K H (.ref a) .list
  | tup {a : Addr} {xs : List V} (e : H a = some (.tup xs)) : Th K H (.ref a) .tup
  | dict {a : Addr} {kvs : List (Key × V)} (e : H a = some (.dK kvs)) : Th K H (.ref a) .dict
  | fn {a : Addr} {o : Obj} (e : K.lookup a = some o) (c : o.cls = .type "function") : Th K H (.ref a) .fn
theorem Th.ty {K : PySem.W.Frag} {H : Hp} {v : V} {k : Kd} (h : Th K H v k) : TyZ K H v (.type k.nm) := by
  cases h with
  | non => exact .x (.base .non)
  | int i => exact .x (.base (.int i))
  | bl b => exact .x (.base (.bl b))
  | str h => exact .x (.base (.str _))
  | lst e => exact .x (.base (.lst e))
  | tup e => exact .x (.base (.tup e))
  | dict e => exact .x (.base (.dK e))
  | fn e c => exact .fn e c
theorem Th.same {K : PySem.W.Frag} {H H' : Hp} {v : V} {k : Kd} (h : Th K H v k) (s : Same H H') : Th K H' v k := by
  cases h with
  | non => exact .non
  | int i => exact .int i
  | bl b => exact .bl b
  | str h => exact .str h
  | lst e => exact .lst (s _ _ e)
  | tup e => exact .tup (s _ _ e)
  | dict e => exact .dict (s _ _ e)
  | fn e c => exact .fn e c
theorem kit_seq {K : PySem.W.Frag} (k : Kd) : PySem.W.kitAny K (.type k.nm) [.type "list", .type "tuple"] = some k.isSeq := by
  cases k <;> first
    | exact kitAny_cons (b := true) (kit_ty (by decide +kernel)) (fun z => nomatch z) (fun _ => rfl)
    | exact kitAny_cons (b := false) (kit_ty (by decide +kernel)) (fun _ => kitAny_cons (b := true) (kit_ty (by decide +kernel)) (fun z => nomatch z) (fun _ => rfl)) (fun z => nomatch z)
    | exact kitAny_cons (b := false) (kit_ty (by decide +kernel)) (fun _ => kitAny_cons (b := false) (kit_ty (by decide +kernel)) (fun _ => kitAny_nil) (fun z => nomatch z)) (fun z => nomatch z)
theorem kit_str {K : PySem.W.Frag} (k : Kd) : PySem.W.kitOne K (.type k.nm) (.type "str") = some k.isStr := by cases k <;> exact kit_ty (by decide +kernel)
theorem kit_list {K : PySem.W.Frag} (k : Kd) : PySem.W.kitOne K (.type k.nm) (.type "list") = some k.isList := by cases k <;> exact kit_ty (by decide +kernel)
theorem kit_tup {K : PySem.W.Frag} (k : Kd) : PySem.W.kitOne K (.type k.nm) (.type "tuple") = some k.isTup := by cases k <;> exact kit_ty (by decide +kernel)
theorem kit_dict {K : PySem.W.Frag} (k : Kd) : PySem.W.kitOne K (.type k.nm) (.type "dict") = some k.isDict := by cases k <;> exact kit_ty (by decide +kernel)
theorem kit_bool {K : PySem.W.Frag} (k : Kd) : PySem.W.kitOne K (.type k.nm) (.type "bool") = some k.isBool := by cases k <;> exact kit_ty (by decide +kernel)
theorem same_upd {H : Hp} {p : Addr} {o : HO} (h : H p = none) : Same H (upd H p o) := fun b u e => by rw [upd_ne (ne_of_none e h)]; exact e
/-! ### is_list -/
def spIsList (K : PySem.W.Frag) : Sp := fun vs H Q _ => ∃ v k, vs = [v] ∧ Th K H v k ∧ ∀ H', Same H H' → Q (.bl k.isSeq) H'
section
variable {P : Program} {w : World} {K : PySem.W.Frag} {mg : Str → Option Value} {base : Heap}
theorem scIsList : FnScope ["thing"] ["thing"] (defScope sIsList) := ⟨rfl, rfl, rfl, by decide +kernel, rfl, by decide +kernel, by decide +kernel⟩
theorem ok_isList {f : Addr} {fd : FuncData} (F : Fun K "is_list" "is_list" sIsList f fd) (B : B0 K mg) : FnOk P w K mg base CX0 1 f fd ["thing"] (spIsList K) := by
  refine F.ok scIsList (fun vs H Q E h => ?_) (fun cdv A outer s H vs Q E hr h => ?_)
  · obtain ⟨v, k, rfl, _⟩ := h
    rfl
  · obtain ⟨v, k, rfl, ht, q⟩ := h
    refine ⟨_, pss_one (ps_ret (pe_callB call_isiTZ (by rfl) B.isi (by decide +kernel) (pa_cons (pv 0) (pa_cons (pe_tup (pa_cons (pe_bltn (v := .ty "list") (by rfl) B.list (by decide +kernel) rfl) (pa_cons (pe_bltn (v := .ty "tuple") (by rfl) B.tuple (by decide +kernel) rfl) pa_nil))) pa_nil)))), ?_⟩
    refine ⟨_, rfl, (by show 2 ≤ sizeLine; decide), fun p hp => ?_⟩
    exact ⟨v, p, [.ty "list", .ty "tuple"], _, [.type "list", .type "tuple"], k.isSeq, rfl, upd_same, .cons (.ty _) (.cons (.ty _) .nil), (ht.same (same_upd hp)).ty, kit_seq k, q _ (same_upd hp)⟩
end
end RK

namespace RK
open PySem L2
/-! ### is_name -/
def firstC : List Nat := ("abcdefghijklmnopqrstuvwxyz" : Str).cps.toList
def laterC : List Nat := ("abcdefghijklmnopqrstuvwxyz0123456789" : Str).cps.toList
def nameB (z : Str) : Bool := decide (1 ≤ z.length) && decide (z.length ≤ 8) && (match z.cps.toList with | c :: _ => decide (c ∈ firstC) | [] => false) && z.cps.toList.all fun c => decide (c ∈ laterC)
def nameV : V → Bool
  | .str z => nameB z
  | _ => false
def spIsName (K : PySem.W.Frag) : Sp := fun vs H Q _ => ∃ v k, vs = [v] ∧ Th K H v k ∧ ∀ H', Same H H' → Q (.bl (nameV v)) H'
theorem Th.str_of {K : PySem.W.Frag} {H : Hp} {v : V} {k : Kd} (h : Th K H v k) (e : k.isStr = true) : ∃ z, v = .str z ∧ z.length ≤ 1000 := by
  cases h <;> first | exact ⟨_, rfl, by assumption⟩ | cases e
theorem Th.not_name {K : PySem.W.Frag} {H : Hp} {v : V} {k : Kd} (h : Th K H v k) (e : k.isStr = false) : nameV v = false := by
  cases h <;> first | rfl | cases e
theorem tyes {σ : St} {H : Hp} {A B : Hp → Prop} (h : A H) : tYes σ H fun b H' => if b = true then A H' else B H' := by
  show if true = true then A H else B H
  rw [if_pos rfl]
  exact h
theorem take_more {α : Type} {l : List α} {i : Nat} {x : α} (h : l[i]? = some x) : l.take (i + 1) = l.take i ++ [x] := by
  rw [List.take_add_one, h]
  rfl
theorem le8 {z : Str} (h : z.length ≤ 8) : z.length ≤ sizeLine := Nat.le_trans h (by decide)
section
variable {P : Program} {w : World} {K : PySem.W.Frag} {mg : Str → Option Value} {base : Heap}
theorem scIsName : FnScope ["thing", "sign"] ["thing"] (defScope sIsName) := ⟨rfl, rfl, rfl, by decide +kernel, rfl, by decide +kernel, by decide +kernel⟩
theorem ok_isName {f : Addr} {fd : FuncData} (F : Fun K "is_name" "is_name" sIsName f fd) (B : B0 K mg) : FnOk P w K mg base CX0 1 f fd ["thing"] (spIsName K) := by
  obtain ⟨t1, g1⟩ := B.first
  obtain ⟨t2, g2⟩ := B.later
  obtain ⟨t3, g3⟩ := B.longest
  refine F.ok scIsName (fun vs H Q E h => ?_) (fun cdv A outer s H vs Q E hr h => ?_)
  · obtain ⟨v, k, rfl, _⟩ := h
    rfl
  · obtain ⟨v, k, rfl, ht, q⟩ := h
    refine ⟨_, pss_cons (ps_if (PW.pt (pw_or (pt_not (pt_val (pe_callB call_isiZ (by rfl) B.isi (by decide +kernel) (pa_cons (pv 0) (pa_cons (pe_bltn (v := .ty "str") (by rfl) B.str (by decide +kernel) rfl) pa_nil)))))
          (pw_or1 (pt_not (pt_chain op_le op_le pe_int (pe_callB call_len_str (by rfl) B.len PySem.boot_len (pa_cons (pv 0) pa_nil)) (pe_glob (v := .int 8) (by rfl) g3 ⟨_, rfl⟩)))))) (pss_one (ps_ret pe_bl)) pss_nil)
      (pss_one (ps_ret (pe_and (pe_cmpR op_in_sign (pe_ix ix_str (pv 0) pe_int (fun _ _ => rfl)) (pe_glob (v := .str "abcdefghijklmnopqrstuvwxyz") (by rfl) g1 ⟨_, rfl⟩) rfl)
        (pe_one (pe_callB (cr_all rfl) (by rfl) B.all (by decide +kernel) (pa_cons (pe_lc (own := [("sign", 1)]) (g := gName 1) (tt := tYes) rfl scIsName.nd (pi_str (pv 0)) (blkOk_by (N := ["thing", "sign"]) (sc := defScope sIsName) (by decide +kernel))
          (fun _ _ _ _ _ => pg_name (i := 1) scIsName.nd rfl (Or.inl rfl)) (fun _ _ _ _ _ => pts_nil) (fun _ _ _ _ _ => pe_cmpR op_in_sign (pv 1) (pe_glob (v := .str "abcdefghijklmnopqrstuvwxyz0123456789") (by rfl) g2 ⟨_, rfl⟩) rfl)) pa_nil)))))), ?_⟩
    -- not isinstance(thing, str)
    refine ⟨_, rfl, v, .ty "str", _, .type "str", k.isStr, rfl, .ty _, ht.ty, kit_str k, k.isStr, rfl, ?_⟩
    cases hk : k.isStr with
    | false =>
      refine iteT ?_
      have e := ht.not_name hk
      have q' := q H (Same.refl H)
      rw [e] at q'
      exact iteT q'
    | true =>
      obtain ⟨z, rfl, hz⟩ := ht.str_of hk
      refine iteF ?_
      have hzs : z.length ≤ sizeLine := Nat.le_trans hz (by decide)
      -- not 1 <= len(thing) <= LONGEST_NAME
      refine ⟨_, rfl, z, rfl, hzs, 1, z.length, rfl, rfl, _, rfl, ?_⟩
      refine ite2 (fun h1 => ?_) (fun h1 => ?_)
      · have h1' : 1 ≤ z.length := by have := of_decide_eq_true h1; omega
        refine ⟨_, _, rfl, rfl, _, rfl, ?_⟩
        by_cases h2 : z.length ≤ 8
        · -- a text of one to eight signs
          have e2 : decide (((z.length : Nat) : Int) ≤ 8) = true := decide_eq_true (by omega)
          rw [e2]
          refine iteF ?_
          obtain ⟨c, r, hc⟩ : ∃ c r, z.cps.toList = c :: r := by
            cases hc : z.cps.toList with
            | nil =>
              have : z.length = 0 := by
                show z.cps.size = 0
                rw [← Array.length_toList, hc]; rfl
              omega
            | cons c r => exact ⟨c, r, rfl⟩
          have hname : nameB z = (decide (c ∈ firstC) && z.cps.toList.all fun c => decide (c ∈ laterC)) := by
            unfold nameB
            rw [decide_eq_true h1', decide_eq_true h2, hc]
            rfl
          refine ⟨_, rfl, z, 0, c, rfl, rfl, hzs, ?_, c, _, rfl, rfl, _, rfl, ?_⟩
          · exact atI_nat (j := 0) (by rw [hc]; rfl)
          · refine ite2 (fun hf => ?_) (fun hf => ?_)
            · refine ⟨_, rfl, z, rfl, fun D hD => lc_it walk_str (fun i H' => Same H H' ∧ H' D = some (.lst ((z.cps.toList.take i).map fun c => V.bl (decide (c ∈ laterC))))) ⟨same_upd hD, upd_same⟩ (fun _ _ _ _ => True.intro) ?_ ?_⟩
              · rintro i x H1 H2 hi ⟨sm, hl⟩ ⟨rfl, d, hd, rfl⟩
                have hd' : z.cps.toList[i]? = some d := by rw [Array.getElem?_toList]; exact hd
                refine ⟨rfl, tyes ?_⟩
                refine ⟨_, rfl, d, _, rfl, rfl, _, hl, ?_, ?_, ?_⟩
                · rw [List.length_map, List.length_take]
                  exact Nat.lt_of_le_of_lt (Nat.min_le_right _ _) (Nat.lt_of_le_of_lt (show z.cps.toList.length ≤ 1000 by rw [Array.length_toList]; exact hz) (by decide))
                · exact fun b o e => by rw [upd_ne (ne_of_none e hD)]; exact sm b o e
                · rw [upd_same, take_more hd', List.map_append]
                  rfl
              · rintro H1 ⟨sm, hl⟩
                rw [show z.cps.size = z.cps.toList.length by rw [Array.length_toList], List.take_length] at hl
                refine ⟨D, z.cps.toList.map fun c => decide (c ∈ laterC), rfl, SqL.of (by rw [hl, List.map_map]; rfl), ?_⟩
                have q' := q H1 sm
                have e : nameV (.str z) = (z.cps.toList.map fun c => decide (c ∈ laterC)).all id := by
                  show nameB z = _
                  have hf' : decide (c ∈ firstC) = true := hf
                  rw [hname, hf', Bool.true_and, List.all_map]
                  rfl
                rw [e] at q'
                exact q'
            · have q' := q H (Same.refl H)
              have e : nameV (.str z) = false := by
                show nameB z = _
                rw [hname, show decide (c ∈ firstC) = false from decide_eq_false fun z => hf (decide_eq_true z), Bool.false_and]
              rw [e] at q'
              exact q'
        · have e2 : decide (((z.length : Nat) : Int) ≤ 8) = false := decide_eq_false (by omega)
          rw [e2]
          refine iteT ?_
          have q' := q H (Same.refl H)
          have e : nameV (.str z) = false := by
            show nameB z = false
            unfold nameB
            rw [decide_eq_false h2, Bool.and_false]
            rfl
          rw [e] at q'
          exact q'
      · refine ⟨_, rfl, iteT ?_⟩
        have q' := q H (Same.refl H)
        have e : nameV (.str z) = false := by
          show nameB z = false
          unfold nameB
          rw [decide_eq_false (by intro h; exact h1 (decide_eq_true (by omega)))]
          rfl
        rw [e] at q'
        exact q'
end
end RK

namespace RK
open PySem L2
/-! ### the class Path -/
structure PT0 (P : Program) (K : PySem.W.Frag) (mg : Str → Option Value) (C CB fB : Addr) : Prop where
  cl : Cls K C
  nN : NoAttr K C "_names"
  mgC : mg "Path" = some (.ref C)
  gB : mg "BadWalkers" = some (.ref CB)
  bad : PySem.XW.XTxt P K mg "index" CB fB
def fNames (t : Addr) : List (Str × V) := putF "_names" (.ref t) []
theorem fNames_get (t : Addr) : (fNames t).lookup ("_names" : Str) = some (.ref t) := by
  unfold fNames
  rw [lookup_putF, if_pos rfl]
theorem fNames_no (t : Addr) {m : Str} (h : ¬ m = "_names") : (fNames t).lookup m = none := by
  unfold fNames
  rw [lookup_putF, if_neg h]
  rfl
/-- an instance at p, its tuple at t holds the names zs -/
structure PathAt (C : Addr) (H : Hp) (p t : Addr) (zs : List Str) : Prop where
  ob : ∃ dx, H p = some (.ins C dx (fNames t))
  tu : H t = some (.tup (zs.map V.str))
theorem PathAt.same {C : Addr} {H H' : Hp} {p t : Addr} {zs : List Str} (h : PathAt C H p t zs) (s : Same H H') : PathAt C H' p t zs :=
  ⟨let ⟨dx, e⟩ := h.ob; ⟨dx, s _ _ e⟩, s _ _ h.tu⟩
/-- what is wrong with a list of walkers: seen ones, those to come -/
def scan : List V → List V → Option Nat
  | seen, [] => if seen.length < 2 then some seen.length else none
  | seen, x :: r => if (nameV x && !decide (x ∈ seen)) = true then scan (seen ++ [x]) r else some seen.length
def wrongIx (xs : List V) : Option Nat := scan [] xs
theorem scan_good {seen r : List V} {x : V} (h1 : nameV x = true) (h2 : x ∉ seen) : scan seen (x :: r) = scan (seen ++ [x]) r := by
  show (if _ then _ else _) = _
  rw [h1, decide_eq_false h2]
  rfl
theorem scan_bad1 {seen r : List V} {x : V} (h1 : nameV x = false) : scan seen (x :: r) = some seen.length := by
  show (if _ then _ else _) = _
  rw [h1]
  rfl
theorem scan_bad2 {seen r : List V} {x : V} (h2 : x ∈ seen) : scan seen (x :: r) = some seen.length := by
  show (if _ then _ else _) = _
  rw [decide_eq_true h2, Bool.not_true, Bool.and_false]
  rfl
theorem drop_at {α : Type} {l : List α} {i : Nat} {x : α} (h : l[i]? = some x) : l.drop i = x :: l.drop (i + 1) := by
  obtain ⟨h1, h2⟩ := List.getElem?_eq_some_iff.mp h
  rw [List.drop_eq_getElem_cons h1, h2]
theorem seqL_keep {K : PySem.W.Frag} {H H' : Hp} {a d : Addr} {xs : List V} (q : SqL K H a xs) (h : a ≠ d) (sm : ∀ b o, b ≠ d → H b = some o → H' b = some o) : SqL K H' a xs := by
  rcases q with (q | ⟨o, q⟩) | q
  · exact .inl (.inl (sm _ _ h q))
  · exact .inl (.inr ⟨o, sm _ _ h q⟩)
  · exact .inr q
theorem seqT_keep {K : PySem.W.Frag} {H H' : Hp} {a d : Addr} {xs : List V} (q : SqT K H a xs) (h : a ≠ d) (sm : ∀ b o, b ≠ d → H b = some o → H' b = some o) : SqT K H' a xs := by
  rcases q with (q | ⟨o, q⟩) | q
  · exact .inl (.inl (sm _ _ h q))
  · exact .inl (.inr ⟨o, sm _ _ h q⟩)
  · exact .inr q
/-- a list or a tuple -/
def SeqAt2 (H : Hp) (a : Addr) (xs : List V) (k : Kd) : Prop := (H a = some (.lst xs) ∧ k = .list) ∨ (H a = some (.tup xs) ∧ k = .tup)
theorem SeqAt2.same {H H' : Hp} {a : Addr} {xs : List V} {k : Kd} (h : SeqAt2 H a xs k) (s : Same H H') : SeqAt2 H' a xs k := h.elim (fun e => .inl ⟨s _ _ e.1, e.2⟩) fun e => .inr ⟨s _ _ e.1, e.2⟩
theorem SeqAt2.th {K : PySem.W.Frag} {H : Hp} {a : Addr} {xs : List V} {k : Kd} (h : SeqAt2 H a xs k) : Th K H (.ref a) k ∧ k.isSeq = true := by
  rcases h with ⟨e, rfl⟩ | ⟨e, rfl⟩
  · exact ⟨.lst e, rfl⟩
  · exact ⟨.tup e, rfl⟩
/-- what Path(v) does: v a list or a tuple of things xs (wrongIx tells), or a thing that is none -/
def spInit (K : PySem.W.Frag) (C CB : Addr) : Sp := fun vs H Q E => ∃ (p dx : Addr) (v : V) (k : Kd), vs = [.ref p, v] ∧ H p = some (.ins C dx []) ∧ Th K H v k ∧
  (k.isSeq = false → ∀ d H', Same H H' → H' d = some (.xd [("index", .int 0)]) → E (.ref CB) (some d) H') ∧
  (k.isSeq = true → ∃ a xs, v = .ref a ∧ SeqAt2 H a xs k ∧ xs.length ≤ 1000 ∧ (∀ x ∈ xs, ∃ kx, Th K H x kx) ∧
    (∀ i, wrongIx xs = some i → ∀ d H', Same H H' → H' d = some (.xd [("index", .int i)]) → E (.ref CB) (some d) H') ∧
    (wrongIx xs = none → ∀ zs t H', xs = zs.map V.str → PathAt C H' p t zs → (∀ b o, H b = some o → b ≠ p → H' b = some o) → Q .non H'))
theorem val_names : ∀ {zs : List Str} {z : Str}, (valV (zs.map fun z => ((Sum.inr z : Key), V.bl true)) (Sum.inr z : Key)).isSome = decide (V.str z ∈ zs.map V.str)
  | [], z => rfl
  | y :: r, z => by
    rw [List.map_cons, List.map_cons]
    by_cases e : y = z
    · subst e
      rw [valV_pos rfl]
      simp
    · rw [valV_neg (fun q => e (Sum.inr.inj q)), val_names (zs := r)]
      have e' : ¬ z = y := fun q => e q.symm
      simp [e']
section
variable {P : Program} {w : World} {K : PySem.W.Frag} {mg : Str → Option Value} {base : Heap} {C CB fB : Addr}
theorem scInit : FnScope ["self", "walkers", "met", "index", "name"] ["self", "walkers"] (defScope sInit) := ⟨rfl, rfl, rfl, by decide +kernel, rfl, by decide +kernel, by decide +kernel⟩
theorem ok_init {f fL fN : Addr} {fd fdL fdN : FuncData} (F : Fun K "__init__" "Path.__init__" sInit f fd) (B : B0 K mg) (T : PT0 P K mg C CB fB)
    (FL : Fun K "is_list" "is_list" sIsList fL fdL) (bL : Binds K fdL ["thing"] []) (gL : mg "is_list" = some (.ref fL)) (FN : Fun K "is_name" "is_name" sIsName fN fdN) (bN : Binds K fdN ["thing"] []) (gN : mg "is_name" = some (.ref fN)) :
    FnOk P w K mg base (L2.CX P w) 2 f fd ["self", "walkers"] (spInit K C CB) := by
  have GL : FnOk P w K mg base CX0 1 fL fdL ["thing"] (spIsList K) := ok_isList FL B
  have GN : FnOk P w K mg base CX0 1 fN fdN ["thing"] (spIsName K) := ok_isName FN B
  refine F.okX scInit (fun vs H Q E h => ?_) (fun cdv A outer s H vs Q E hr h => ?_)
  · obtain ⟨p, dx, v, k, rfl, _⟩ := h
    rfl
  · obtain ⟨p, dx, v, k, rfl, hp, ht, k1, k2⟩ := h
    have hu := hu_of hr
    refine ⟨_, pss_cons (ps_if (pt_not (pt_val (pe_call GL hr (by rfl) gL FL.kp bL .nil pass0 (pa_cons (pv 1) pa_nil)))) (pss_one (ps_raiseX rfl T.bad T.gB hr (takes_of rfl rfl rfl rfl) (by exact (pa_cons pe_int pa_nil)))) pss_nil)
      (pss_cons (ps_set (i := 2) scInit.nd rfl (Or.inl rfl) pe_dnewK)
      (pss_cons (ps_for PassesOwn.leaving rfl (pi_enumA (by rfl) B.enum (pa_cons (pv 1) pa_nil)) (pg_tup rfl (pgs_cons (pg_name (i := 3) scInit.nd rfl (Or.inl rfl)) (pgs_cons (pg_name (i := 4) scInit.nd rfl (Or.inl rfl)) pgs_nil)))
        (pss_cons (ps_if (PW.pt (pw_or (pt_not (pt_val (pe_call GN hr (by rfl) gN FN.kp bN .nil pass0 (pa_cons (pv 4) pa_nil)))) (pw_or1 (pt_cmp (pc_din hu (pv 4) (pv 2)))))) (pss_one (ps_raiseX rfl T.bad T.gB hr (takes_of rfl rfl rfl rfl) (by exact (pa_cons (pv 3) pa_nil)))) pss_nil)
          (pss_one (ps_dput hu (pv 2) (pv 4) pe_bl rfl))))
      (pss_cons (ps_if (pt_cmpR op_lt (pe_callB call_lenD (by rfl) B.len PySem.boot_len (pa_cons (pv 2) pa_nil)) pe_int (nomark _)) (pss_one (ps_raiseX rfl T.bad T.gB hr (takes_of rfl rfl rfl rfl) (by exact (pa_cons (pe_callB call_lenD (by rfl) B.len PySem.boot_len (pa_cons (pv 2) pa_nil)) pa_nil)))) pss_nil)
      (pss_one (ps_fld (pv 0) (pe_callTy (call_tuple_dK rfl) (by rfl) B.tuple (by decide +kernel) (pa_cons (pv 2) pa_nil)) rfl))))), ?_⟩
    -- if not is_list(walkers): raise BadWalkers(0)
    refine ⟨_, rfl, v, k, rfl, ht, fun H1 s1 => ⟨k.isSeq, rfl, ?_⟩⟩
    cases hk : k.isSeq with
    | false =>
      refine iteT ?_
      exact ⟨_, rfl, fun d hd => k1 hk d _ (s1.trans (same_upd hd)) upd_same⟩
    | true =>
      refine iteF ?_
      obtain ⟨a, xs, rfl, hsq, hlen, hth, kbad, kgood⟩ := k2 hk
      -- met = {}
      intro d hd
      have s2 : Same H (upd H1 d (.dK [])) := s1.trans (same_upd hd)
      have npd : p ≠ d := ne_of_none (s1 _ _ hp) hd
      -- for index, name in enumerate(walkers)
      have hnd : ∀ {b : Addr} {o : HO}, H b = some o → b ≠ d := fun e => ne_of_none (s1 _ _ e) hd
      have hq0 : SqL K (upd H1 d (.dK [])) a xs ∨ SqT K (upd H1 d (.dK [])) a xs := hsq.elim (fun e => .inl (SqL.of (s2 _ _ e.1))) fun e => .inr (SqT.of (s2 _ _ e.1))
      have had : a ≠ d := hsq.elim (fun e => hnd e.1) fun e => hnd e.1
      refine ⟨_, rfl, a, xs, rfl, for_enumA hq0 (fun i σ H' => ∃ (w3 w4 : Option V) (zs : List Str), σ = [some (.ref p), some (.ref a), some (.ref d), w3, w4] ∧ xs.take i = zs.map V.str ∧ wrongIx xs = scan (xs.take i) (xs.drop i) ∧
            H' d = some (.dK (zs.map fun z => ((Sum.inr z : Key), V.bl true))) ∧ ∀ b o, b ≠ d → (upd H1 d (.dK [])) b = some o → H' b = some o) ⟨none, none, [], rfl, rfl, rfl, upd_same, fun b o _ e => e⟩ (fun q i σ' H' ⟨_, _, zs, _, _, _, _, sm⟩ => ?_) (fun q i σ' H' ⟨_, _, zs, _, _, _, _, sm⟩ => ?_) ?_ ?_⟩
      · exact seqL_keep q had sm
      · exact seqT_keep q had sm
      · rintro i y T σ H' hy ⟨w3, w4, zs, rfl, htk, hsc, hdk, sm⟩ hT
        have hym : y ∈ xs := List.mem_of_getElem? hy
        obtain ⟨ky, hky⟩ := hth y hym
        have sm' : Same H H' := fun b o e => sm b o (hnd e) (s2 b o e)
        have smT : Same H' (upd H' T (.tup [.int (i : Nat), y])) := same_upd hT
        have hdT : (upd H' T (.tup [.int (i : Nat), y])) d = some (.dK (zs.map fun z => ((Sum.inr z : Key), V.bl true))) := smT _ _ hdk
        have hlen_i : (xs.take i).length = i := by
          rw [List.length_take]
          have := (List.getElem?_eq_some_iff.mp hy).1
          omega
        refine ⟨T, _, rfl, SqT.of upd_same, rfl, _, _, rfl, _, _, rfl, rfl, ?_⟩
        -- if not is_name(name) or name in met: raise BadWalkers(index)
        refine ⟨_, rfl, y, ky, rfl, (hky.same sm').same smT, fun H2 sm2 => ⟨nameV y, rfl, ?_⟩⟩
        have hall : Same H H2 := fun b o e => sm2 b o (smT b o (sm' b o e))
        cases hn : nameV y with
        | false =>
          have hw : wrongIx xs = some i := by rw [hsc, drop_at hy, scan_bad1 hn, hlen_i]
          refine iteT (iteT ?_)
          exact ⟨_, rfl, _, rfl, fun d2 hd2 => kbad i hw d2 _ (hall.trans (same_upd hd2)) upd_same⟩
        | true =>
          refine iteF ?_
          obtain ⟨z, rfl⟩ : ∃ z, y = .str z := by
            cases y <;> first | exact ⟨_, rfl⟩ | cases hn
          refine ⟨_, rfl, _, rfl, d, _, rfl, DGet.k (k := Sum.inr z) (sm2 _ _ hdT), _, rfl, ?_⟩
          rw [val_names]
          refine ite2 (fun hin => ?_) (fun hin => ?_)
          · have hin' : V.str z ∈ zs.map V.str := of_decide_eq_true hin
            have hw : wrongIx xs = some i := by rw [hsc, drop_at hy, scan_bad2 (by rw [htk]; exact hin'), hlen_i]
            exact ⟨_, rfl, _, rfl, fun d2 hd2 => kbad i hw d2 _ (hall.trans (same_upd hd2)) upd_same⟩
          · have hin' : V.str z ∉ zs.map V.str := fun q => hin (decide_eq_true q)
            have hnone : valV (zs.map fun z => ((Sum.inr z : Key), V.bl true)) (Sum.inr z : Key) = none := by
              have q := val_names (zs := zs) (z := z)
              rw [decide_eq_false hin'] at q
              simpa using q
            have hzl : zs.length = i := by
              have := congrArg List.length htk
              rw [hlen_i, List.length_map] at this
              exact this.symm
            have hi1 : i < xs.length := (List.getElem?_eq_some_iff.mp hy).1
            refine ⟨_, rfl, _, rfl, d, _, rfl, DPut.k (k := Sum.inr z) (sm2 _ _ hdT) (small1000 (by rw [List.length_map, hzl]; omega)), ?_⟩
            refine ⟨_, _, zs ++ [z], rfl, ?_, ?_, ?_, fun b o hb e => ?_⟩
            · rw [take_more hy, htk, List.map_append]; rfl
            · rw [hsc, drop_at hy, scan_good hn (by rw [htk]; exact hin'), take_more hy]
            · rw [upd_same, putK_new _ hnone, List.map_append]; rfl
            · rw [upd_ne hb]
              exact sm2 _ _ (smT _ _ (sm b o hb e))
      · rintro σ H' ⟨w3, w4, zs, rfl, htk, hsc, hdk, sm⟩
        rw [List.take_length] at htk hsc
        rw [List.drop_length] at hsc
        have sm' : Same H H' := fun b o e => sm b o (hnd e) (s2 b o e)
        have hl : zs.length = xs.length := by rw [htk, List.length_map]
        -- if len(met) < 2: raise BadWalkers(len(met))
        refine ⟨_, rfl, d, _, rfl, hdk, _, _, rfl, rfl, _, rfl, ?_⟩
        rw [List.length_map]
        refine ite2 (fun h2 => ?_) (fun h2 => ?_)
        · have h2' : xs.length < 2 := by have := of_decide_eq_true h2; omega
          have hw : wrongIx xs = some xs.length := by
            rw [hsc]
            show (if _ then _ else _) = _
            rw [if_pos h2']
          refine ⟨_, rfl, d, _, rfl, hdk, _, rfl, fun d2 hd2 => kbad _ hw d2 _ (sm'.trans (same_upd hd2)) ?_⟩
          rw [upd_same, List.length_map, hl]
        · have h2' : ¬ xs.length < 2 := fun q => h2 (decide_eq_true (by omega))
          have hw : wrongIx xs = none := by
            rw [hsc]
            show (if _ then _ else _) = _
            rw [if_neg h2']
          -- self._names = tuple(met)
          refine ⟨_, rfl, d, _, rfl, hdk, fun t ht' => ?_⟩
          have hpt : p ≠ t := ne_of_none (sm' _ _ hp) ht'
          refine ⟨_, rfl, p, C, dx, _, rfl, by rw [upd_ne hpt]; exact sm' _ _ hp, T.cl, T.nN, (by show 0 < 1000; decide), ?_⟩
          refine kgood hw zs t _ htk ⟨⟨dx, upd_same⟩, ?_⟩ fun b o e hb => ?_
          · rw [upd_ne (Ne.symm hpt), upd_same, List.map_map]; rfl
          · rw [upd_ne hb, upd_ne (ne_of_none (sm' b o e) ht')]
            exact sm' b o e
end
end RK

namespace RK
open PySem L2
/-- what isinstance and == ask of the class -/
structure PT1 (K : PySem.W.Frag) (C fE : Addr) : Prop where
  cls1 : PySem.W.findIn K (.ref C) "__class__" = some (some (.builtin "object.__class__"))
  spec : PySem.W.specialIn K (.builtin "object.__class__") "__get__" = some (some (.builtin "getset_descriptor.__get__"))
  tak : PySem.W.takesIn K (.builtin "object.__class__") = some true
  mo : PySem.W.mroIn K C (.type "object") = some true
  isC : ((PySem.W.clsIn K C).isSome && PySem.W.typeIn K (.ref C) == some (.type "type")) = true
  eqF : PySem.W.findIn K (.ref C) "__eq__" = some (some (.ref fE))
  eqI : PySem.W.isFn K (.ref fE) = true
  neF : PySem.W.findIn K (.ref C) "__ne__" = some (some (.builtin "object.__ne__"))
theorem sub_no {K : PySem.W.Frag} {C : Addr} (k : Kd) : PySem.W.subIn K (.type k.nm) (.ref C) = some false := by
  cases k <;> rfl
theorem kit_no {K : PySem.W.Frag} {C fE : Addr} (T : PT1 K C fE) (k : Kd) : PySem.W.kitOne K (.type k.nm) (.ref C) = some false := by
  show (if (Value.type k.nm == Value.ref C) = true then some true else PySem.W.kitCls K (.type k.nm) (.ref C)) = some false
  rw [if_neg (by intro h; cases h)]
  show (if _ then _ else _) = some false
  rw [if_pos T.isC]
  exact sub_no k
theorem kit_yes {K : PySem.W.Frag} {C : Addr} : PySem.W.kitOne K (.ref C) (.ref C) = some true := by
  show (if (Value.ref C == Value.ref C) = true then some true else _) = some true
  rw [if_pos (by simp)]
theorem notFirst_k {K : PySem.W.Frag} {C : Addr} (k : Kd) : PySem.W.notFirst K C (.type k.nm) = true := by
  unfold PySem.W.notFirst
  rw [sub_no k]
  simp
theorem PathAt.ty {P : Program} {K : PySem.W.Frag} {mg : Str → Option Value} {C CB fB fE : Addr} {H : Hp} {p t : Addr} {zs : List Str} (T : PT0 P K mg C CB fB) (T1 : PT1 K C fE) (h : PathAt C H p t zs) : TyZ K H (.ref p) (.ref C) := by
  obtain ⟨dx, e⟩ := h.ob
  exact .x (.base (.ins e T.cl T1.cls1 T1.spec T1.tak T1.mo))
/-! ### names -/
def Nm (zs : List Str) : Prop := ∀ z ∈ zs, nameB z = true
theorem laterC_small : ∀ c ∈ laterC, c < 0x110000 := by decide +kernel
theorem name_all {z : Str} (h : nameB z = true) : (z.cps.toList.all fun c => decide (c ∈ laterC)) = true := by
  unfold nameB at h
  exact (Bool.and_eq_true_iff.mp h).2
theorem name_short {z : Str} (h : nameB z = true) : z.length ≤ 8 := by
  unfold nameB at h
  have h1 := (Bool.and_eq_true_iff.mp (Bool.and_eq_true_iff.mp (Bool.and_eq_true_iff.mp h).1).1).2
  exact of_decide_eq_true h1
theorem name_ok {z : Str} (h : nameB z = true) : PyData.strOk z = true := by
  have q := List.all_eq_true.mp (name_all h)
  unfold PyData.strOk
  rw [← Array.all_toList, List.all_eq_true]
  intro c hc
  exact decide_eq_true (laterC_small c (of_decide_eq_true (q c hc)))
theorem shaped_strs {zs : List Str} (h : Nm zs) : SeqAt.shaped (.tuple (zs.map PyData.str)) = true := by
  have k1 : ∀ l : List Str, Nm l → PyData.canLayAll0 (l.map PyData.str) = true := by
    intro l
    induction l with
    | nil => intro _; rw [List.map_nil, PyData.canLayAll0]
    | cons z r ih =>
      intro h
      rw [List.map_cons, PyData.canLayAll0, ih fun y hy => h y (List.mem_cons_of_mem _ hy), PyData.canLay0, name_ok (h z List.mem_cons_self)]
      rfl
  have k2 : ∀ l : List Str, PyData.depthAll (l.map PyData.str) = 0 := by
    intro l
    induction l with
    | nil => rw [List.map_nil, PyData.depthAll]
    | cons z r ih => rw [List.map_cons, PyData.depthAll, ih, PyData.depth]; rfl
  unfold SeqAt.shaped
  rw [PyData.canLay0, k1 zs h, PyData.depth, k2]
  rfl
/-! ### path.walkers() and == -/
def spWalkers (C : Addr) : Sp := fun vs H Q _ => ∃ (p t : Addr) (zs : List Str), vs = [.ref p] ∧ PathAt C H p t zs ∧ ∀ l, H l = none → Q (.ref l) (upd H l (.lst (zs.map V.str)))
def spEq (K : PySem.W.Frag) (C : Addr) : Sp := fun vs H Q _ => ∃ (p t : Addr) (zs : List Str) (v : V), vs = [.ref p, v] ∧ PathAt C H p t zs ∧ Nm zs ∧
  ((∃ k, Th K H v k ∧ Q (.bl false) H) ∨ ∃ (p2 t2 : Addr) (ys : List Str), v = .ref p2 ∧ PathAt C H p2 t2 ys ∧ Nm ys ∧ Q (.bl (decide (zs = ys))) H)
theorem dpAll_strs {K : PySem.W.Frag} {H : Hp} : ∀ zs : List Str, DpAll K H (zs.map V.str) (zs.map PyData.str)
  | [] => .nil
  | z :: r => .cons (.str z) (dpAll_strs r)
theorem beq_dec (z y : Str) : (z == y) = decide (z = y) := by
  by_cases e : z = y
  · subst e
    simp
  · rw [decide_eq_false e]
    simpa using e
theorem eqv_strs : ∀ zs ys : List Str, PyData.eqv (.tuple (zs.map PyData.str)) (.tuple (ys.map PyData.str)) = decide (zs = ys) := by
  have key : ∀ zs ys : List Str, PyData.eqvAll (zs.map PyData.str) (ys.map PyData.str) = decide (zs = ys) := by
    intro zs
    induction zs with
    | nil => intro ys; cases ys <;> simp [PyData.eqvAll]
    | cons z r ih =>
      intro ys
      cases ys with
      | nil => simp [PyData.eqvAll]
      | cons y t =>
        rw [List.map_cons, List.map_cons, PyData.eqvAll, ih t]
        have e1 : PyData.eqv (PyData.str z) (PyData.str y) = decide (z = y) := by rw [PyData.eqv]; exact beq_dec z y
        rw [e1]
        simp
  intro zs ys
  rw [PyData.eqv]
  exact key zs ys
section
variable {P : Program} {w : World} {K : PySem.W.Frag} {mg : Str → Option Value} {base : Heap} {C CB fB fE : Addr}
theorem scWalkers : FnScope ["self"] ["self"] (defScope sWalkers) := ⟨rfl, rfl, rfl, by decide +kernel, rfl, by decide +kernel, by decide +kernel⟩
theorem ok_walkers {f : Addr} {fd : FuncData} (F : Fun K "walkers" "Path.walkers" sWalkers f fd) (B : B0 K mg) (T : PT0 P K mg C CB fB) : FnOk P w K mg base CX0 1 f fd ["self"] (spWalkers C) := by
  refine F.ok scWalkers (fun vs H Q E h => ?_) (fun cdv A outer s H vs Q E hr h => ?_)
  · obtain ⟨p, t, zs, rfl, _⟩ := h
    rfl
  · obtain ⟨p, t, zs, rfl, hp, k⟩ := h
    obtain ⟨dx, ho⟩ := hp.ob
    refine ⟨_, pss_one (ps_ret (pe_callTy call_list_of (by rfl) B.list (by decide +kernel) (pa_cons (pe_fld (pv 0) rfl) pa_nil))), ?_⟩
    exact ⟨_, rfl, p, C, dx, _, _, rfl, ho, T.cl, T.nN, fNames_get t, t, _, rfl, .inr (SqT.of hp.tu), k⟩
theorem scEq : FnScope ["self", "other"] ["self", "other"] (defScope sEq) := ⟨rfl, rfl, rfl, by decide +kernel, rfl, by decide +kernel, by decide +kernel⟩
theorem ok_eq {f : Addr} {fd : FuncData} (F : Fun K "__eq__" "Path.__eq__" sEq f fd) (B : B0 K mg) (T : PT0 P K mg C CB fB) (T1 : PT1 K C fE) : FnOk P w K mg base CX0 1 f fd ["self", "other"] (spEq K C) := by
  refine F.ok scEq (fun vs H Q E h => ?_) (fun cdv A outer s H vs Q E hr h => ?_)
  · obtain ⟨p, t, zs, v, rfl, _⟩ := h
    rfl
  · obtain ⟨p, t, zs, v, rfl, hp, hl, k⟩ := h
    obtain ⟨dx, ho⟩ := hp.ob
    refine ⟨_, pss_one (ps_ret (pe_and (pe_callB call_isiZ (by rfl) B.isi (by decide +kernel) (pa_cons (pv 1) (pa_cons (pe_glob (v := .ref C) (by rfl) T.mgC rfl) pa_nil)))
      (pe_one (pe_cmpR (op_eqD hr.units) (pe_fld (pv 0) rfl) (pe_fld (pv 1) rfl) (nomark _))))), ?_⟩
    rcases k with ⟨kd, ht, q⟩ | ⟨p2, t2, ys, rfl, hp2, hn2, q⟩
    · refine ⟨_, rfl, v, .ref C, _, .ref C, false, rfl, .own C, ht.ty, kit_no T1 kd, false, rfl, ?_⟩
      exact iteF q
    · refine ⟨_, rfl, .ref p2, .ref C, _, .ref C, true, rfl, .own C, hp2.ty T T1, kit_yes, true, rfl, ?_⟩
      refine iteT ?_
      obtain ⟨dy, ho2⟩ := hp2.ob
      refine ⟨_, rfl, p, C, dx, _, _, rfl, ho, T.cl, T.nN, fNames_get t, _, rfl, p2, C, dy, _, _, rfl, ho2, T.cl, T.nN, fNames_get t2, _, _, .tup (SqT.of hp.tu) (dpAll_strs zs), .tup (SqT.of hp2.tu) (dpAll_strs ys), ?_, ?_, ?_⟩
      · exact shaped_strs hl
      · exact shaped_strs hn2
      · rw [eqv_strs]
        exact q
end
end RK

namespace RK
open PySem L2
/-! ### draws -/
def SpOk (m : Nat) (o : HO) : Prop := ∃ x y c : Int, o = .lst [.int x, .int y, .int c] ∧ 0 ≤ y ∧ y < 2147483648 ∧ 0 ≤ c ∧ c ≤ (m : Int)
def SpAt (H : Hp) (a : Addr) (m : Nat) : Prop := ∃ o, H a = some o ∧ SpOk m o
theorem SpOk.mono {m n : Nat} {o : HO} (h : SpOk m o) (e : m ≤ n) : SpOk n o := by
  obtain ⟨x, y, c, h1, h2, h3, h4, h5⟩ := h
  exact ⟨x, y, c, h1, h2, h3, h4, by omega⟩
def spDraw : Sp := fun vs H Q _ => ∃ (a : Addr) (n : Int) (m : Nat), vs = [.ref a, .int n] ∧ 0 < n ∧ n < 100000000000000000 ∧ SpAt H a m ∧ m < 4000000000 ∧ ∀ r o, 0 ≤ r → r < n → SpOk (m + 1) o → Q (.int r) (upd H a o)
theorem fmod_range {i n : Int} (h : 0 < n) : 0 ≤ i.fmod n ∧ i.fmod n < n := by
  rw [Int.fmod_eq_emod_of_nonneg _ (Int.le_of_lt h)]
  exact ⟨Int.emod_nonneg _ (by omega), Int.emod_lt_of_pos _ h⟩
section
variable {P : Program} {w : World} {K : PySem.W.Frag} {mg : Str → Option Value} {base : Heap}
theorem scDraw : FnScope ["source", "many", "digit", "seed"] ["source", "many"] (defScope sDrawB) := ⟨rfl, rfl, rfl, by decide +kernel, rfl, by decide +kernel, by decide +kernel⟩
theorem ok_draw {f : Addr} {fd : FuncData} (F : Fun K "_law_draw" "_law_draw" sDrawB f fd) (B : B0 K mg) : FnOk P w K mg base CX0 1 f fd ["source", "many"] spDraw := by
  refine F.ok scDraw (fun vs H Q E h => ?_) (fun cdv A outer s H vs Q E hr h => ?_)
  · obtain ⟨a, n, m, rfl, _⟩ := h
    rfl
  · obtain ⟨a, n, m, rfl, hn, hn2, ⟨o, ho, x, y, c, rfl, hy0, hy1, hc0, hc1⟩, hm, k⟩ := h
    refine ⟨_, pss_cons (ps_if (pt_cmpR op_gt (pe_ix ix_list (pv 0) pe_int (fun _ _ => rfl)) pe_int (nomark _))
        (pss_cons (ps_set (i := 2) scDraw.nd rfl (Or.inl rfl) (pe_op op_modN (pe_callTy call_int1 (by rfl) B.int (by decide +kernel) (pa_cons (pe_ix ix_list (pv 0) pe_int (fun _ _ => rfl)) pa_nil)) (pv 1)))
        (pss_cons (ps_asg (pe_op op_fdivW (pe_ix ix_list (pv 0) pe_int (fun _ _ => rfl)) (pv 1)) (pg_sub (pv 0) pe_int set_list))
        (pss_one (ps_ret (pv 2))))) pss_nil)
      (pss_cons (ps_asg (pe_op op_add (pe_ix ix_list (pv 0) pe_int (fun _ _ => rfl)) pe_int) (pg_sub (pv 0) pe_int set_list))
      (pss_cons (ps_set (i := 3) scDraw.nd rfl (Or.inl rfl) (pe_op op_mod (pe_callTy call_int1 (by rfl) B.int (by decide +kernel) (pa_cons (pe_op op_add (pe_ix ix_list (pv 0) pe_int (fun _ _ => rfl)) (pe_op op_mul pe_int (pe_ix ix_list (pv 0) pe_int (fun _ _ => rfl)))) pa_nil)) pe_int))
      (pss_cons (ps_set (i := 3) scDraw.nd rfl (Or.inl rfl) (pe_op op_mod (pe_callTy call_int1 (by rfl) B.int (by decide +kernel) (pa_cons (pe_op op_add (pe_op op_pow (pv 3) pe_int) (pe_ix ix_list (pv 0) pe_int (fun _ _ => rfl))) pa_nil)) pe_int))
      (pss_one (ps_ret (pe_op op_modN (pe_op op_fdiv (pe_op op_mod (pe_callTy call_int1 (by rfl) B.int (by decide +kernel) (pa_cons (pe_op op_add (pe_op op_mul (pv 3) pe_int) (pe_op op_mul pe_int (pe_ix ix_list (pv 0) pe_int (fun _ _ => rfl)))) pa_nil)) pe_int) pe_int) (pv 1))))))), ?_⟩
    -- if spring[0] > 0
    refine ⟨_, rfl, a, _, 0, _, rfl, rfl, SqL.of ho, atI_nat (j := 0) rfl, _, _, rfl, rfl, _, rfl, ?_⟩
    refine ite2 (fun hx => ?_) (fun hx => ?_)
    · have hx' : 0 < x := of_decide_eq_true hx
      refine ⟨_, rfl, a, _, 0, _, rfl, rfl, SqL.of ho, atI_nat (j := 0) rfl, .inl ⟨_, rfl, _, rfl, _, _, rfl, rfl, by omega, ?_⟩⟩
      refine ⟨_, rfl, a, _, 0, _, rfl, rfl, SqL.of ho, atI_nat (j := 0) rfl, _, rfl, _, _, rfl, rfl, wide_div (b := 60) hn (by omega) (by decide) (by decide), ?_⟩
      refine ⟨_, rfl, a, _, 0, 0, rfl, rfl, ho, by rfl, ?_⟩
      exact ⟨_, rfl, k _ _ (fmod_range hn).1 (fmod_range hn).2 ⟨_, y, c, rfl, hy0, hy1, hc0, by omega⟩⟩
    · refine ⟨_, rfl, a, _, 2, _, rfl, rfl, SqL.of ho, atI_nat (j := 2) rfl, _, _, rfl, rfl, ?_⟩
      refine ⟨_, rfl, a, _, 2, 2, rfl, rfl, ho, by rfl, ?_⟩
      have ho2 : (upd H a (.lst [.int x, .int y, .int (c + 1)])) a = some (.lst [.int x, .int y, .int (c + 1)]) := upd_same
      refine ⟨_, rfl, a, _, 1, _, rfl, rfl, SqL.of ho2, atI_nat (j := 1) rfl, _, rfl, a, _, 2, _, rfl, rfl, SqL.of ho2, atI_nat (j := 2) rfl, _, _, rfl, rfl, .inl ⟨by decide, by decide⟩, _, _, rfl, rfl, ?_⟩
      refine .inl ⟨_, rfl, _, _, rfl, rfl, (by show (0 : Int) < 2147483629; decide), ?_⟩
      have hb : ∀ z : Int, 0 ≤ z % 2147483629 ∧ z % 2147483629 < 2147483629 ∧ (z % 2147483629).natAbs < 2 ^ 64 := fun z => by omega
      obtain ⟨b1, b2, b3⟩ := hb (y + 15485863 * (c + 1))
      refine ⟨_, rfl, _, _, rfl, rfl, ⟨by decide, by decide, b3⟩, ?_⟩
      refine ⟨_, rfl, a, _, 2, _, rfl, rfl, SqL.of ho2, atI_nat (j := 2) rfl, _, _, rfl, rfl, .inl ⟨_, rfl, _, _, rfl, rfl, (by show (0 : Int) < 2147483647; decide), ?_⟩⟩
      have hb2 : ∀ z : Int, 0 ≤ z % 2147483647 ∧ z % 2147483647 < 2147483647 := fun z => by omega
      obtain ⟨b4, b5⟩ := hb2 (((y + 15485863 * (c + 1)) % 2147483629) ^ Int.toNat 5 + (c + 1))
      refine ⟨_, rfl, _, _, rfl, rfl, .inl ⟨Int.lt_of_lt_of_le (by decide) b4, Int.lt_trans b5 (by decide)⟩, _, rfl, a, _, 2, _, rfl, rfl, SqL.of ho2, atI_nat (j := 2) rfl, _, _, rfl, rfl, .inl ⟨by decide, by decide⟩, _, _, rfl, rfl, ?_⟩
      refine .inl ⟨_, rfl, _, _, rfl, rfl, (by show (0 : Int) < 2147483629; decide), _, _, rfl, rfl, ⟨by decide, by decide⟩, _, rfl, _, _, rfl, rfl, by omega, ?_⟩
      exact k _ _ (fmod_range hn).1 (fmod_range hn).2 ⟨x, y, c + 1, rfl, hy0, hy1, by omega, by omega⟩
end
end RK

namespace RK
open PySem L2
theorem seqIx {j n : Nat} (h : j < n) : seqIndex? (j : Int) n = some j := by
  rw [PySem.seqIndex_of (by omega) (by omega)]
  rfl
theorem perm_erase {α : Type} : ∀ {l : List α} {j : Nat} (h : j < l.length), ([l[j]] ++ l.eraseIdx j).Perm l
  | [], j, h => by simp at h
  | x :: r, 0, h => List.Perm.refl _
  | x :: r, j + 1, h => by
    have hj : j < r.length := by simpa using h
    have ih := perm_erase (l := r) (j := j) hj
    exact (List.Perm.swap x (r[j]'hj) (r.eraseIdx j)).trans (List.Perm.cons x ih)
def rLenS (K : PySem.W.Frag) : List V → Hp → VK → Prop := fun xs H Q => ∃ p ys, xs = [.ref p] ∧ (SqL K H p ys ∨ SqT K H p ys) ∧ Q (.int ys.length) H
theorem call_lenS {X : Cx} : CallR X (.builtin "len") (rLenS X.K) := call_len_seq
theorem mtr_popAt {X : Cx} : MtR X "list.pop" rPopAt := mt_popAt
/-- all but the object at a stand as they stood -/
def But (a : Addr) (H H' : Hp) : Prop := ∀ b o, b ≠ a → H b = some o → H' b = some o
theorem But.trans {a : Addr} {H H1 H2 : Hp} (x : But a H H1) (y : But a H1 H2) : But a H H2 := fun b o h e => y b o h (x b o h e)
theorem Same.but {a : Addr} {H H' : Hp} (s : Same H H') : But a H H' := fun b o _ e => s b o e
theorem But.upd {a : Addr} {H : Hp} {o : HO} : But a H (upd H a o) := fun b u h e => by rw [upd_ne h]; exact e
def spPick : Sp := fun vs H Q _ => ∃ (a l : Addr) (xs : List V) (m : Nat), vs = [.ref a, .ref l] ∧ a ≠ l ∧ SpAt H a m ∧ m < 4000000000 ∧ H l = some (.lst xs) ∧ 0 < xs.length ∧ xs.length ≤ 1000 ∧ ∀ v o, v ∈ xs → SpOk (m + 1) o → Q v (upd H a o)
def spMixed : Sp := fun vs H Q _ => ∃ (a l : Addr) (xs : List V) (m : Nat), vs = [.ref a, .ref l] ∧ a ≠ l ∧ SpAt H a m ∧ m < 3000000000 ∧ H l = some (.lst xs) ∧ xs.length ≤ 1000 ∧
  ∀ p ys H', ys.Perm xs → H p = none → H' p = some (.lst ys) → SpAt H' a (m + xs.length) → But a H H' → Q (.ref p) H'
section
variable {P : Program} {w : World} {K : PySem.W.Frag} {mg : Str → Option Value} {base : Heap}
theorem scPick : FnScope ["source", "some"] ["source", "some"] (defScope sPickB) := ⟨rfl, rfl, rfl, by decide +kernel, rfl, by decide +kernel, by decide +kernel⟩
theorem ok_pick {f fD : Addr} {fd fdD : FuncData} (F : Fun K "_law_pick" "_law_pick" sPickB f fd) (B : B0 K mg)
    (GD : FnOk P w K mg base CX0 1 fD fdD ["source", "many"] spDraw) (bD : Binds K fdD ["source", "many"] []) (gD : mg "_law_draw" = some (.ref fD)) (kD : PySem.W.keepIn K (.ref fD) = true) :
    FnOk P w K mg base CX0 2 f fd ["source", "some"] spPick := by
  refine F.ok scPick (fun vs H Q E h => ?_) (fun cdv A outer s H vs Q E hr h => ?_)
  · obtain ⟨a, l, xs, m, rfl, _⟩ := h
    rfl
  · obtain ⟨a, l, xs, m, rfl, hal, hsp, hm, hl, h0, h1, k⟩ := h
    refine ⟨_, pss_one (ps_ret (pe_ix ix_list (pv 1) (pe_call GD hr (by rfl) gD kD bD .nil pass0 (pa_cons (pv 0) (pa_cons (pe_callB call_len_seq (by rfl) B.len PySem.boot_len (pa_cons (pv 1) pa_nil)) pa_nil))) (fun _ _ => rfl))), ?_⟩
    refine ⟨_, rfl, _, rfl, _, rfl, l, _, rfl, .inl (SqL.of hl), a, xs.length, m, rfl, by omega, by omega, hsp, hm, fun r o hr0 hr1 ho => ?_⟩
    obtain ⟨i, rfl⟩ : ∃ i : Nat, r = (i : Int) := ⟨r.toNat, by omega⟩
    have hi : i < xs.length := by omega
    refine ⟨l, xs, _, xs[i], rfl, rfl, SqL.of (by rw [upd_ne (Ne.symm hal)]; exact hl), atI_nat (by simp [hi]), k _ _ (List.getElem_mem hi) ho⟩
theorem scMixed : FnScope ["source", "some", "left", "found", "k"] ["source", "some"] (defScope sMixedB) := ⟨rfl, rfl, rfl, by decide +kernel, rfl, by decide +kernel, by decide +kernel⟩
theorem ok_mixed {f fD : Addr} {fd fdD : FuncData} (F : Fun K "_law_mixed" "_law_mixed" sMixedB f fd) (B : B0 K mg)
    (GD : FnOk P w K mg base CX0 1 fD fdD ["source", "many"] spDraw) (bD : Binds K fdD ["source", "many"] []) (gD : mg "_law_draw" = some (.ref fD)) (kD : PySem.W.keepIn K (.ref fD) = true) :
    FnOk P w K mg base CX0 2 f fd ["source", "some"] spMixed := by
  refine F.ok scMixed (fun vs H Q E h => ?_) (fun cdv A outer s H vs Q E hr h => ?_)
  · obtain ⟨a, l, xs, m, rfl, _⟩ := h
    rfl
  · obtain ⟨a, l, xs, m, rfl, hal, hsp, hm, hl, h1, k⟩ := h
    refine ⟨_, pss_cons (ps_par (i := 2) (j := 3) rfl scMixed.nd rfl rfl (by decide) rfl rfl (pa_cons (pe_callTy call_list_of (by rfl) B.list (by decide +kernel) (pa_cons (pv 1) pa_nil)) (pa_cons (pe_lst pa_nil) pa_nil)) (by rfl))
      (pss_cons (ps_for PassesOwn.never rfl (pi_range1 (by rfl) B.range (pa_cons (pe_callB call_len_seq (by rfl) B.len PySem.boot_len (pa_cons (pv 1) pa_nil)) pa_nil)) (pg_name (i := 4) scMixed.nd rfl (Or.inl rfl))
        (pss_one (ps_expr (pe_bm PySem.F.plainAttrs_list PySem.F.slot_list_append PySem.F.type_list_append mt_append (pv 3) (pa_cons (pe_bm PySem.F.plainAttrs_list PySem.F.slot_list_pop PySem.F.type_list_pop mtr_popAt (pv 2) (pa_cons (pe_call GD hr (by rfl) gD kD bD .nil pass0 (pa_cons (pv 0) (pa_cons (pe_callB call_lenS (by rfl) B.len PySem.boot_len (pa_cons (pv 2) pa_nil)) pa_nil))) pa_nil)) pa_nil)))))
      (pss_one (ps_ret (pv 3)))), ?_⟩
    refine ⟨_, rfl, l, xs, rfl, .inl (SqL.of hl), fun L hL => ?_⟩
    obtain ⟨osp, hosp, hok0⟩ := id hsp
    have naL : a ≠ L := ne_of_none hosp hL
    have s1 : Same H (upd H L (.lst xs)) := same_upd hL
    have eL : (upd H L (.lst xs)) L = some (.lst xs) := upd_same
    generalize upd H L (.lst xs) = G1 at s1 eL
    refine ⟨by show 0 ≤ sizeLine; decide, fun D hD => ?_⟩
    have naD : a ≠ D := ne_of_none (s1 _ _ hosp) hD
    have nLD : L ≠ D := ne_of_none eL hD
    have s2 : Same G1 (upd G1 D (.lst [])) := same_upd hD
    have eD : (upd G1 D (.lst [])) D = some (.lst []) := upd_same
    generalize upd G1 D (.lst []) = G2 at s2 eD
    have s12 := s1.trans s2
    have hDn : H D = none := s1.free hD
    refine ⟨_, _, rfl, ?_⟩
    refine ⟨_, rfl, l, xs, rfl, .inl (SqL.of (s12 _ _ hl)), xs.length, rfl, by omega, ?_⟩
    refine ⟨by omega, for_range (n := ((xs.length : Nat) : Int).toNat) (fun i σ G => ∃ (w4 : Option V) (rest acc : List V), σ = [some (.ref a), some (.ref l), some (.ref L), some (.ref D), w4] ∧ G L = some (.lst rest) ∧ G D = some (.lst acc) ∧ (acc ++ rest).Perm xs ∧ acc.length = i ∧ SpAt G a (m + i) ∧ But a H G)
      ⟨none, xs, [], rfl, s2 _ _ eL, eD, List.Perm.refl _, rfl, ⟨osp, s12 _ _ hosp, hok0⟩, Same.but s12⟩ ?_ ?_⟩
    · rintro i σ G hi ⟨w4, rest, acc, rfl, hr1, hd1, hperm, hacc, ⟨o1, ho1, hok1⟩, hbut⟩
      rw [Int.toNat_natCast] at hi
      have hlen : acc.length + rest.length = xs.length := by rw [← List.length_append]; exact hperm.length_eq
      have hpos : 0 < rest.length := by omega
      refine ⟨_, rfl, .inl ⟨rfl, _, SqL.of hd1⟩, _, rfl, .inl ⟨rfl, _, SqL.of hr1⟩, _, rfl, _, rfl, L, rest, rfl, .inl (SqL.of hr1), a, rest.length, m + i, rfl, by omega, by omega, ⟨o1, ho1, hok1⟩, by omega, fun r o hr0 hr2 ho => ?_⟩
      obtain ⟨j, rfl⟩ : ∃ j : Nat, r = (j : Int) := ⟨r.toNat, by omega⟩
      have hj : j < rest.length := by omega
      refine ⟨L, rest, (j : Int), j, rest[j], rfl, rfl, by rw [upd_ne (Ne.symm naL)]; exact hr1, by omega, by omega, seqIx hj, by simp [hj], ?_⟩
      have hdx : (upd (upd G a o) L (.lst (rest.eraseIdx j))) D = some (.lst acc) := by rw [upd_ne (Ne.symm nLD), upd_ne (Ne.symm naD)]; exact hd1
      refine ⟨D, _, _, rfl, rfl, hdx, Nat.lt_of_le_of_lt (show acc.length ≤ 1000 by omega) (by decide), ?_⟩
      refine ⟨_, rest.eraseIdx j, acc ++ [rest[j]], rfl, ?_, upd_same, ?_, ?_, ⟨o, ?_, ho.mono (by omega)⟩, ?_⟩
      · rw [upd_ne nLD, upd_same]
      · refine List.Perm.trans ?_ hperm
        rw [List.append_assoc]
        exact List.Perm.append_left acc (perm_erase hj)
      · rw [List.length_append, hacc]; rfl
      · rw [upd_ne naD, upd_ne naL, upd_same]
      · refine fun b u hb e => ?_
        rw [upd_ne (ne_of_none e hDn), upd_ne (ne_of_none e hL), upd_ne hb]
        exact hbut b u hb e
    · rintro σ G ⟨w4, rest, acc, rfl, hr1, hd1, hperm, hacc, hspG, hbut⟩
      rw [Int.toNat_natCast] at hacc hspG
      have hlen : acc.length + rest.length = xs.length := by rw [← List.length_append]; exact hperm.length_eq
      have hrest : rest = [] := List.length_eq_zero_iff.mp (by omega)
      subst hrest
      rw [List.append_nil] at hperm
      exact ⟨_, rfl, k D acc G hperm hDn hd1 hspG hbut⟩
end
end RK

namespace RK
open PySem L2
/-! ### the names drawn -/
def pool : List Str := ["a", "b", "c7", "dora", "eightsig", "f", "g2", "hal", "i", "jo", "kk", "l0", "mo", "nn", "o", "pia", "q9", "ru", "sea", "tt"]
theorem pool_nodup : pool.Nodup := by decide +kernel
theorem pool_names : Nm pool := by unfold Nm pool; decide +kernel
def spNames : Sp := fun vs H Q _ => ∃ (a : Addr) (k m : Nat), vs = [.ref a, .int (k : Nat)] ∧ k ≤ 20 ∧ SpAt H a m ∧ m < 2000000000 ∧
  ∀ p (zs : List Str) H', zs.Nodup → (∀ z ∈ zs, z ∈ pool) → zs.length = k → H p = none → H' p = some (.lst (zs.map V.str)) → SpAt H' a (m + 20) → But a H H' → Q (.ref p) H'
def unStr : V → Str
  | .str z => z
  | _ => "b"
theorem perm_strs {ys : List V} {l : List Str} (h : ys.Perm (l.map V.str)) : ∃ zs : List Str, zs.Perm l ∧ ys = zs.map V.str := by
  refine ⟨ys.map unStr, ?_, ?_⟩
  · have q := h.map unStr
    rw [List.map_map] at q
    have e : (unStr ∘ V.str) = id := rfl
    rw [e, List.map_id] at q
    exact q
  · rw [List.map_map]
    have e : ∀ y ∈ ys, (V.str ∘ unStr) y = y := fun y hy => by
      obtain ⟨z, _, rfl⟩ := List.mem_map.mp (h.mem_iff.mp hy)
      rfl
    rw [List.map_congr_left e, List.map_id'']
    intro x
    rfl
section
variable {P : Program} {w : World} {K : PySem.W.Frag} {mg : Str → Option Value} {base : Heap}
theorem scNames : FnScope ["source", "many", "some"] ["source", "many"] (defScope sWNames) := ⟨rfl, rfl, rfl, by decide +kernel, rfl, by decide +kernel, by decide +kernel⟩
theorem ok_names {f fM : Addr} {fd fdM : FuncData} (F : Fun K "_law_w_names" "_law_w_names" sWNames f fd)
    (GM : FnOk P w K mg base CX0 2 fM fdM ["source", "some"] spMixed) (bM : Binds K fdM ["source", "some"] []) (gM : mg "_law_mixed" = some (.ref fM)) (kM : PySem.W.keepIn K (.ref fM) = true) :
    FnOk P w K mg base CX0 3 f fd ["source", "many"] spNames := by
  refine F.ok scNames (fun vs H Q E h => ?_) (fun cdv A outer s H vs Q E hr h => ?_)
  · obtain ⟨a, k, m, rfl, _⟩ := h
    rfl
  · obtain ⟨a, n, m, rfl, h2, hsp, hm, k⟩ := h
    refine ⟨_, pss_cons (ps_set (i := 2) scNames.nd rfl (Or.inl rfl) (pe_lst (pa_cons pe_str (pa_cons pe_str (pa_cons pe_str (pa_cons pe_str (pa_cons pe_str (pa_cons pe_str (pa_cons pe_str (pa_cons pe_str (pa_cons pe_str (pa_cons pe_str (pa_cons pe_str (pa_cons pe_str (pa_cons pe_str (pa_cons pe_str (pa_cons pe_str (pa_cons pe_str pa_nil))))))))))))))))))
      (pss_one (ps_ret (pe_slice sl_list (pe_call GM hr (by rfl) gM kM bM .nil pass0 (pa_cons (pv 0) (pa_cons (pe_op op_cat (pv 2) (pe_lst (pa_cons pe_str (pa_cons pe_str (pa_cons pe_str (pa_cons pe_str pa_nil)))))) pa_nil))) po_none (po_some (pv 1))))), ?_⟩
    refine ⟨by show 16 ≤ sizeLine; decide, fun L hL => ?_⟩
    obtain ⟨osp, hosp, hok0⟩ := id hsp
    generalize hE : upd H L _ = G1
    have s1 : Same H G1 := hE ▸ same_upd hL
    have eL := congrFun hE.symm L
    rw [upd_same] at eL
    clear hE
    refine ⟨_, rfl, _, rfl, by show 4 ≤ sizeLine; decide, fun M hM => ?_⟩
    generalize hE : upd G1 M _ = G2
    have s2 : Same G1 G2 := hE ▸ same_upd hM
    have eM := congrFun hE.symm M
    rw [upd_same] at eM
    clear hE
    refine ⟨L, M, _, _, rfl, rfl, s2 _ _ eL, eM, by show 16 + 4 ≤ sizeLine; decide, fun N hN => ?_⟩
    generalize hE : upd G2 N _ = G3
    have s3 : Same G2 G3 := hE ▸ same_upd hN
    have eN := congrFun hE.symm N
    rw [upd_same] at eN
    clear hE
    replace eN : G3 N = some (.lst (pool.map V.str)) := eN
    have s03 := s1.trans (s2.trans s3)
    refine ⟨a, N, pool.map V.str, m, rfl, ne_of_none (s2 _ _ (s1 _ _ hosp)) hN, ⟨osp, s03 _ _ hosp, hok0⟩, by omega, eN, by show 20 ≤ 1000; decide, fun p ys H' hperm hp hp' hsp' hbut => ?_⟩
    have hpool : (pool.map V.str).length = 20 := by decide +kernel
    rw [hpool] at hsp'
    obtain ⟨zs, hzs, rfl⟩ := perm_strs hperm
    have hlen : zs.length = 20 := hzs.length_eq
    refine ⟨_, rfl, _, rfl, p, zs.map V.str, rfl, SqL.of hp', fun R hR => ?_⟩
    have hcut : cutV (zs.map V.str) none (some (n : Nat)) = (zs.take n).map V.str := by
      unfold cutV
      rw [HT.sIx_none, HT.sIx_nat, List.drop_zero, List.length_map, hlen, Nat.sub_zero, Nat.min_eq_left (by omega), List.map_take]
    have hnd : zs.Nodup := hzs.nodup_iff.mpr pool_nodup
    have htl : (zs.take n).length = n := by rw [List.length_take, hlen]; omega
    have b0 : But a H (upd H' R (.lst (cutV (zs.map V.str) none (some (n : Nat))))) := (Same.but s03).trans (hbut.trans (Same.but (same_upd hR)))
    have hRa : R ≠ a := fun e => by
      obtain ⟨o, ho, _⟩ := hsp'
      rw [e, ho] at hR
      cases hR
    have hRn : H R = none := by
      cases q : H R with
      | none => rfl
      | some u => exact absurd (((Same.but s03).trans hbut) R u hRa q) (by rw [hR]; exact fun z => nomatch z)
    obtain ⟨o, ho, hk⟩ := hsp'
    exact k R (zs.take n) _ (hnd.sublist (List.take_sublist _ _)) (fun z hz => hzs.mem_iff.mp (List.mem_of_mem_take hz)) htl hRn (by rw [hcut, upd_same]) ⟨o, by rw [upd_ne (Ne.symm hRa)]; exact ho, hk⟩ b0
end
end RK

namespace RK
open PySem L2
def spSpring (K : PySem.W.Frag) : Sp := fun vs H Q _ => ∃ (sc : Addr) (ns : List Int) (t : Nat), vs = [.ref sc, .int t] ∧ SqL K H sc (ns.map V.int) ∧ ns.length ≤ 63 ∧ t ≤ 100 ∧ ∀ p o H', H p = none → H' p = some o → SpOk 0 o → Same H H' → Q (.ref p) H'
theorem cutV_ints {ns : List Int} (h : ns.length ≤ 63) : cutV (ns.map V.int) none (some 63) = ns.map V.int := by
  unfold cutV
  rw [HT.sIx_none, show (63 : Int) = ((63 : Nat) : Int) from rfl, HT.sIx_nat, List.drop_zero, List.length_map, Nat.sub_zero, Nat.min_eq_right h]
  exact List.take_of_length_le (by rw [List.length_map]; exact Nat.le_refl _)
def spCell (K : PySem.W.Frag) : Sp := fun vs H Q _ => ∃ (sc : Addr) (ns : List Int) (t : Nat), vs = [.ref sc, .int t] ∧ SqL K H sc (ns.map V.int) ∧ ∀ c, Q (.int c) H
section
variable {P : Program} {w : World} {K : PySem.W.Frag} {mg : Str → Option Value} {base : Heap}
theorem scCell : FnScope ["script", "k"] ["script", "k"] (defScope sCell) := ⟨rfl, rfl, rfl, by decide +kernel, rfl, by decide +kernel, by decide +kernel⟩
theorem ok_cell {f : Addr} {fd : FuncData} (F : Fun K "_law_cell" "_law_cell" sCell f fd) (B : B0 K mg) (zsum : mg "sum" = none) : FnOk P w K mg base CX0 1 f fd ["script", "k"] (spCell K) := by
  refine F.ok scCell (fun vs H Q E h => ?_) (fun cdv A outer s H vs Q E hr h => ?_)
  · obtain ⟨sc, ns, t, rfl, _⟩ := h
    rfl
  · obtain ⟨sc, ns, t, rfl, hS, k⟩ := h
    refine ⟨_, pss_one (ps_ret (pe_ifExp (pt_cmpR op_lt (pv 1) (pe_callB call_len_seq (by rfl) B.len PySem.boot_len (pa_cons (pv 0) pa_nil)) (nomark _)) (pe_ix ix_list (pv 0) (pv 1) (fun _ _ => rfl))
      (pe_op op_mod (pe_callTy call_int1 (by rfl) B.int (by decide +kernel) (pa_cons (pe_op op_add (pe_op op_add (pe_op op_mul (pe_callB (cr_sum rfl) (by rfl) zsum (by decide +kernel) (pa_cons (pv 0) pa_nil)) pe_int) (pe_op op_mul pe_int (pv 1))) pe_int) pa_nil)) pe_int))), ?_⟩
    refine ⟨_, rfl, _, rfl, sc, _, rfl, .inl hS, _, _, rfl, rfl, _, rfl, ?_⟩
    rw [List.length_map]
    refine ite2 (fun h1 => ?_) (fun h1 => ?_)
    · have h1' : t < ns.length := by have := of_decide_eq_true h1; omega
      exact ⟨_, rfl, _, rfl, sc, _, _, _, rfl, rfl, hS, atI_nat (by rw [List.getElem?_map, List.getElem?_eq_getElem h1']; rfl), k _⟩
    · refine ⟨_, rfl, sc, _, rfl, hS, _, _, rfl, rfl, .inr ⟨by decide, by decide⟩, _, rfl, _, _, rfl, rfl, .inl ⟨by decide, by decide⟩, _, _, rfl, rfl, _, _, rfl, rfl, .inl ⟨_, rfl, _, _, rfl, rfl, (by show (0 : Int) < 1000003; decide), k _⟩⟩
theorem scSource : FnScope ["script", "k", "cell", "seed", "one"] ["script", "k"] (defScope sSource) := ⟨rfl, rfl, rfl, by decide +kernel, rfl, by decide +kernel, by decide +kernel⟩
theorem ok_source {f fC : Addr} {fd fdC : FuncData} (F : Fun K "_law_source" "_law_source" sSource f fd) (B : B0 K mg) (zabs : mg "abs" = none)
    (GC : FnOk P w K mg base CX0 1 fC fdC ["script", "k"] (spCell K)) (bC : Binds K fdC ["script", "k"] []) (gC : mg "_law_cell" = some (.ref fC)) (kC : PySem.W.keepIn K (.ref fC) = true) :
    FnOk P w K mg base CX0 2 f fd ["script", "k"] (spSpring K) := by
  refine F.ok scSource (fun vs H Q E h => ?_) (fun cdv A outer s H vs Q E hr h => ?_)
  · obtain ⟨sc, ns, t, rfl, _⟩ := h
    rfl
  · obtain ⟨sc, ns, t, rfl, hS, hl, ht, k⟩ := h
    refine ⟨_, pss_cons (ps_par (i := 2) (j := 3) rfl scSource.nd rfl rfl (by decide) rfl rfl (pa_cons (pe_callB call_abs (by rfl) zabs (by decide +kernel) (pa_cons (pe_call GC hr (by rfl) gC kC bC .nil pass0 (pa_cons (pv 0) (pa_cons (pv 1) pa_nil))) pa_nil)) (pa_cons (pe_op op_add pe_int (pe_op op_mul pe_int (pv 1))) pa_nil)) (by rfl))
      (pss_cons (ps_for PassesOwn.never rfl (pi_list (pe_slice sl_list (pv 0) po_none (po_some pe_int))) (pg_name (i := 4) scSource.nd rfl (Or.inl rfl))
        (pss_one (ps_set (i := 3) scSource.nd rfl (Or.inl rfl) (pe_op op_mod (pe_callTy call_int1 (by rfl) B.int (by decide +kernel) (pa_cons (pe_op op_add (pe_op op_add (pe_op op_mul (pv 3) pe_int) (pe_op op_mod (pe_callTy call_int1 (by rfl) B.int (by decide +kernel) (pa_cons (pv 4) pa_nil)) pe_int)) pe_int) pa_nil)) pe_int))))
      (pss_one (ps_ret (pe_lst (pa_cons (pe_ifExp (pt_cmpR op_ge (pv 2) (pe_op op_pow pe_int pe_int) (nomark _)) (pv 2) pe_int) (pa_cons (pe_op op_mod (pe_callTy call_int1 (by rfl) B.int (by decide +kernel) (pa_cons (pe_op op_add (pe_op op_add (pv 3) (pe_op op_mul (pv 2) pe_int)) (pe_op op_mul pe_int (pv 1))) pa_nil)) pe_int) (pa_cons pe_int pa_nil))))))), ?_⟩
    refine ⟨_, rfl, _, rfl, sc, ns, t, rfl, hS, fun c0 => ⟨_, rfl, ?_⟩⟩
    generalize (if c0 < 0 then -c0 else c0) = cell
    refine ⟨_, rfl, _, _, rfl, rfl, .inl ⟨by decide, by decide⟩, _, _, rfl, rfl, _, _, rfl, ?_⟩
    refine ⟨_, rfl, _, rfl, sc, _, rfl, hS, fun L hL => ?_⟩
    rw [cutV_ints hl]
    have s1 := same_upd (o := .lst (ns.map V.int)) hL
    refine ⟨L, rfl, ⟨_, SqL.of upd_same⟩, for_list (xs := ns.map V.int) (fun i σ H' => ∃ (w4 : Option V) (mx : Int), σ = [some (.ref sc), some (.int t), some (.int cell), some (.int mx), w4] ∧ 0 ≤ mx ∧ mx < 2147483647 ∧ Same (upd H L (.lst (ns.map V.int))) H')
      ⟨none, _, rfl, by omega, by omega, Same.refl _⟩ (fun i σ H' _ ⟨_, _, _, _, _, sm⟩ => SqL.of (sm _ _ upd_same)) ?_ ?_⟩
    · rintro i x σ H2 hx ⟨w4, mx, rfl, hm0, hm1, sm⟩
      obtain ⟨z, rfl⟩ : ∃ z, x = V.int z := by
        rw [List.getElem?_map] at hx
        cases e : ns[i]? with
        | none => rw [e] at hx; cases hx
        | some z => rw [e] at hx; exact ⟨z, (Option.some.inj hx).symm⟩
      refine ⟨_, rfl, _, _, rfl, rfl, .inl ⟨by omega, by omega⟩, _, rfl, .inl ⟨_, rfl, _, _, rfl, rfl, (by show (0 : Int) < 2147483629; decide), ?_⟩⟩
      refine ⟨_, _, rfl, rfl, _, _, rfl, rfl, .inl ⟨_, rfl, _, _, rfl, rfl, (by show (0 : Int) < 2147483647; decide), ?_⟩⟩
      exact ⟨_, _, rfl, Int.emod_nonneg _ (by decide), Int.emod_lt_of_pos _ (by decide), sm⟩
    · rintro σ H2 ⟨w4, mx, rfl, hm0, hm1, sm⟩
      refine ⟨_, rfl, _, _, rfl, rfl, ⟨by decide, by decide, by decide⟩, _, _, rfl, rfl, _, rfl, ?_⟩
      have fin : ∀ cl : Int, ∀ p, H2 p = none → Q (.ref p) (upd H2 p (.lst [.int cl, .int ((mx + cell * 40692 + 977 * (t : Int)) % 2147483629), .int 0])) := fun cl p hp =>
        k p _ _ (s1.free (sm.free hp)) upd_same ⟨_, _, _, rfl, Int.emod_nonneg _ (by decide), Int.lt_trans (Int.emod_lt_of_pos _ (by decide)) (by decide), by decide, by decide⟩ (s1.trans (sm.trans (same_upd hp)))
      refine ite2 (fun h1 => ?_) (fun h1 => ?_)
      · refine ⟨_, rfl, _, rfl, _, rfl, _, _, rfl, rfl, .inr ⟨by decide, by decide⟩, _, _, rfl, rfl, _, rfl, _, _, rfl, rfl, .inl ⟨by decide, by decide⟩, _, _, rfl, rfl, .inl ⟨_, rfl, _, _, rfl, rfl, (by show (0 : Int) < 2147483629; decide), by show 3 ≤ sizeLine; decide, fun p hp => fin _ p hp⟩⟩
      · refine ⟨_, rfl, _, rfl, _, _, rfl, rfl, .inr ⟨by decide, by decide⟩, _, _, rfl, rfl, _, rfl, _, _, rfl, rfl, .inl ⟨by decide, by decide⟩, _, _, rfl, rfl, .inl ⟨_, rfl, _, _, rfl, rfl, (by show (0 : Int) < 2147483629; decide), by show 3 ≤ sizeLine; decide, fun p hp => fin _ p hp⟩⟩
end
end RK

/-! a set comprehension of ints: {e for t in xs if ..} -/
namespace L2
open PySem PySem.Spec PyProof.Rows
/-- what a turn owes: the number into the set at D, then the next turn's wish -/
def IntIn (w : World) (D : Addr) (Nx : Hp → Prop) : V → Hp → Prop := fun y G => ∃ (k : Int) (S : Int → Bool) (n : Nat), y = .int k ∧ G D = some (SetO w D S n) ∧ n + 1 < scanBound ∧ Nx (upd G D (SetO w D (fun j => S j || decide (j = k)) (if S k = true then n else n + 1)))
def OneTurn (w : World) (D : Addr) (g : TG) (tt : TT) (te : TE) (vs : List Nat) (σ : St) (Nx : Hp → Prop) (x : V) (G : Hp) : Prop :=
  g x (wipe σ vs) G fun ρ G1 => wipe ρ vs = wipe σ vs ∧ tt ρ G1 fun b G2 => if b = true then te ρ G2 (IntIn w D Nx) else Nx G2
def SetWalk (w : World) (J : It) (D : Addr) (g : TG) (tt : TT) (te : TE) (vs : List Nat) (σ : St) (H1 : Hp) (Qd : Hp → Prop) : Prop :=
  ∃ W : Nat → Nat → Hp → Prop, (∃ m, W 0 m (upd H1 D (SetO w D (fun _ => false) 0))) ∧ ∀ i m G, W i m G →
    (J.stop i G ∧ Qd G) ∨ (J.go i G ∧ ∃ Nx : Hp → Prop, (∀ G', Nx G' → ∃ m', m' < m ∧ W (i + 1) m' G') ∧ ∀ x G', J.yld i G x G' → OneTurn w D g tt te vs σ Nx x G')
def tScI (w : World) (wi : TI) (g : TG) (tt : TT) (te : TE) (vs : List Nat) : TE := fun σ H Q => wi σ H fun J H1 => ∀ D, H1 D = none → SetWalk w J D g tt te vs σ H1 fun G => Q (.ref D) G
section
variable {X : Cx} {elt tg iter : Expr} {ifs : List Expr} {scope : Scope} {own : List (Str × Nat)} {wi : TI} {g : TG} {tt : TT} {te : TE}
/-- the block's three parts, wherever it stands -/
structure Blk3 (X : Cx) (tg elt : Expr) (ifs : List Expr) (scope : Scope) (g : TG) (tt : TT) (te : TE) : Prop where
  tgt : ∀ (u : Shared) (G : Hp) (L : Addr) (cl : List (Str × Addr)) (fp : List Addr), PG (X.blk u G scope (compEnvC scope cl L X.env) fp) tg g
  tst : ∀ (u : Shared) (G : Hp) (L : Addr) (cl : List (Str × Addr)) (fp : List Addr), PTs (X.blk u G scope (compEnvC scope cl L X.env) fp) ifs tt
  elm : ∀ (u : Shared) (G : Hp) (L : Addr) (cl : List (Str × Addr)) (fp : List Addr), PE (X.blk u G scope (compEnvC scope cl L X.env) fp) elt te
theorem scI_core {pins : List (Addr × Obj)} {s : Shared} {σ : St} {H : Hp} {Q : VK} {pos pos' : Pos} {use : Option (Value → Sem Unit)} {Qf : Value → Shared → Prop} (hc : X.calm = true) (hN : X.N.Nodup) (Inow : Inv X pins σ H s) (hi : PI X tg iter wi) (ok : BlkOk X.N X.env.scope scope own)
    (B : Blk3 X tg elt ifs scope g tt te) (hfold : ∀ x, foldedSetIterable iter X.env x = pure x) (h : tScI X.w wi g tt te (own.map (·.2)) σ H Q)
    (hend : ∀ D L u m G, Inv X pins σ G u → Q (.ref D) G → u.heap.Ns L m → FpOk X pins G L → compPost (model X.prog X.w) X.A X.xe use Qf (.ref D) L (.ok .next) u) :
    wpAny (model X.prog X.w) X.A (comprehension (.SetComp elt [⟨tg, iter, ifs, 0⟩] scope pos) scope X.env pos' (newSet (.type "set")) false (eval iter X.env) use) Qf X.xe s := by
  have free : ∀ y ∈ scope.names, y.2 = .free → ∃ c, X.env.cells.lookup y.1 = some c := fun y hy e => (ok.free y hy e).elim (fun k => Inow.ok.has _ (.inl k)) fun k => Inow.ok.has _ (.inr k)
  refine wpAny_comprehension_free (use := use) rfl hfold (closure_ok free) ok.kind (fun y hy e => by rw [ok.uniq y hy, e]) (thn (hi.run pins s σ H _ Inow h) fun xv u1 hx => thn hx fun itv u2 got => ?_)
  obtain ⟨it, fp, tn, J, G2, rfl, I2, T, at0, own2, walk⟩ := got
  refine PpSet.newSet_ok (newEnv_comp ?_)
  generalize hD : u2.heap.objs.size = D
  have fresh : G2 D = none := I2.hok.fresh (Nat.le_of_eq hD)
  obtain ⟨W, ⟨m0, begins⟩, turn⟩ := walk D fresh
  -- the empty set stands
  generalize hG3 : upd G2 D (SetO X.w D (fun _ => false) 0) = G3 at begins
  generalize hu3 : ({ u2 with heap := u2.heap.push { cls := .type "set", dict := none, data := .set #[] 0 (.fresh 0 0 (!X.w.params.followText "set-order")) } } : Shared) = u3
  have p3 : u3.heap = u2.heap.push { cls := .type "set", dict := none, data := .set #[] 0 (.fresh 0 0 (!X.w.params.followText "set-order")) } := by rw [← hu3]
  have I3 : Inv X pins σ G3 u3 := by
    rw [← hG3, ← hu3]
    refine I2.laid (t' := u2.toks) (fun b o e => Heap.get?_push_of_some _ e) (Nat.le_of_eq hD) ?_
    rw [← hD]
    exact setO_new (setR_fresh X.w)
  have below : ∀ b ∈ fp, b < u2.heap.objs.size := fun b hb => let ⟨_, e, _⟩ := T.obj _ _ at0 b hb; Heap.lt_size e
  have own3 : ∀ b ∈ fp, FpOk X pins G3 b ∧ b < u3.heap.objs.size := fun b hb => by
    have lt := below b hb
    refine ⟨⟨?_, (own2 b hb).2⟩, by rw [p3, Heap.size_push]; exact Nat.lt_succ_of_lt lt⟩
    rw [← hG3, upd_ne (by rw [← hD]; exact Nat.ne_of_lt lt)]
    exact (own2 b hb).1
  have at3 : tn 0 u3.heap := T.keep _ _ _ at0 fun b _ o e => by rw [p3]; exact Heap.get?_push_of_some _ e
  have I4 := block_start I3 ok hN own3
  have pg := B.tgt u3 G3 u3.heap.objs.size (cellsFrom (u3.heap.objs.size + 1) scope.names (cloFrom X.env.cells scope.names [])) fp
  have pt := B.tst u3 G3 u3.heap.objs.size (cellsFrom (u3.heap.objs.size + 1) scope.names (cloFrom X.env.cells scope.names [])) fp
  have pe := B.elm u3 G3 u3.heap.objs.size (cellsFrom (u3.heap.objs.size + 1) scope.names (cloFrom X.env.cells scope.names [])) fp
  have no3 : ∀ b ∈ fp, G3 b = none := fun b hb => (own3 b hb).1.1
  show codeAny _ _ (.compStart (.SetComp elt [⟨tg, iter, ifs, 0⟩] scope pos) 0 (.ref it) (.ref D) (compEnvC scope (cellsFrom (u3.heap.objs.size + 1) scope.names (cloFrom X.env.cells scope.names [])) u3.heap.objs.size X.env)) (compPost (model X.prog X.w) X.A X.xe use Qf (.ref D) u3.heap.objs.size) { u3 with heap := pushCells (u3.heap.push { cls := .type "dict", data := .dict #[] }) scope.names }
  generalize hce : compEnvC scope (cellsFrom (u3.heap.objs.size + 1) scope.names (cloFrom X.env.cells scope.names [])) u3.heap.objs.size X.env = ce at I4 pg pt pe ⊢
  have lce : ce.locals = u3.heap.objs.size := by rw [← hce] <;> rfl
  generalize hu4 : ({ u3 with heap := pushCells (u3.heap.push { cls := .type "dict", data := .dict #[] }) scope.names } : Shared) = u4 at I4 ⊢
  have at4 : tn 0 u4.heap := T.keep _ _ _ at3 fun b _ o e => by rw [← hu4]; exact pushCells_keeps _ _ _ _ (Heap.get?_push_of_some _ e)
  generalize hY : X.blk u3 G3 scope ce fp = Y at I4 pg pt pe
  have Yw : Y.w = X.w := by rw [← hY]
  have held : ∀ {ρ : St} {G : Hp} {u : Shared}, Inv Y [] ρ G u → (∀ b ∈ fp, G b = none) → ∀ b ∈ fp, FpOk Y [] G b := fun {ρ G u} I' no b hb => by
    subst hY
    exact ⟨no b hb, (I'.ok.exf b hb).1, I'.ok.exfs b hb, .inl hb, fun x c e => (I'.ok.exf b hb).2 x c e, fun p hp => absurd (show p ∈ ([] : List (Addr × Obj)) ++ [] from hp) (by simp)⟩
  have loop : codeAny (model X.prog X.w) X.A (.compLoop (.SetComp elt [⟨tg, iter, ifs, 0⟩] scope pos) 0 (.ref it) (.ref D) ce) (compPost (model X.prog X.w) X.A X.xe use Qf (.ref D) u3.heap.objs.size) u4 := by
    refine PpSet.compLoopS_any (fun n u => ∃ i G, Inv Y [] (wipe σ (own.map (·.2))) G u ∧ tn i u.heap ∧ (∀ b ∈ fp, G b = none) ∧ W i n G) ?_ m0 ⟨0, G3, I4, at4, no3, begins⟩
    rintro n u5 ⟨i, G5, I5, at5, no5, w5⟩
    have TY := fun (go : Bool) => held I5 no5
    subst hY
    rcases turn i n G5 w5 with ⟨stop, qq⟩ | ⟨go, Nx, hNx, step⟩
    · refine thnF (T.done (X.blk u3 G3 scope ce fp) rfl rfl rfl hc i [] u5 _ G5 (fun _ _ => False) I5 (held I5 no5) at5 stop) fun r u6 ⟨hr, I6⟩ => ?_
      subst hr
      have back : Inv X pins σ G5 u6 := I3.call' (ch := fp) I6.os I6.base I6.hok I6.bare fun b hb => let z := (own3 b hb).1; ⟨z.2.2.2.1, z.2.1, z.2.2.2.2.1, z.2.2.2.2.2⟩
      have nL : G5 u3.heap.objs.size = none := lce ▸ (I6.free : G5 ce.locals = none)
      obtain ⟨m, ns, _⟩ := I6.loc
      exact hend D u3.heap.objs.size u6 m G5 back qq (lce ▸ (ns : u6.heap.Ns ce.locals m)) (I3.fpOk (Nat.le_refl _) nL)
    · refine thnF (T.item (X.blk u3 G3 scope ce fp) rfl rfl rfl hc i [] u5 _ G5 (fun _ _ => False) I5 (held I5 no5) at5 go) fun r u6 ⟨u, hr, h6⟩ => ?_
      subst hr
      refine thnF h6 fun _ u7 ⟨x, G7, I7, r7, y7, at7, no7⟩ => ?_
      refine thnF (pg.run _ u7 _ G7 x u _ (I7.pinned (held I7 no7) (T.obj _ _ at7)) r7 (step x G7 y7)) fun _ u8 ⟨ρ, G8, I8, same, q8⟩ => ?_
      refine thnF (pt.run _ u8 ρ G8 _ I8 q8) fun b u9 ⟨G9, I9, q9⟩ => ?_
      have next : ∀ {u' : Shared} {G' : Hp}, Inv (X.blk u3 G3 scope ce fp) ([] ++ pinsAt fp u7.heap) ρ G' u' → Nx G' → ∃ m, m < n ∧ ∃ i G, Inv (X.blk u3 G3 scope ce fp) [] (wipe σ (own.map (·.2))) G u' ∧ tn i u'.heap ∧ (∀ b ∈ fp, G b = none) ∧ W i m G := fun {u' G'} I' nx => by
        obtain ⟨m', less, w'⟩ := hNx G' nx
        have pinned : ∀ b ∈ fp, ∀ o, u7.heap.get? b = some o → u'.heap.get? b = some o ∧ G' b = none := fun b hb o e => let z := I'.pin (b, o) (List.mem_append_right _ (List.mem_append_right _ (mem_pinsAt hb e))); ⟨z.1, z.2.1⟩
        have hl : (wipe σ (own.map (·.2))).length = ρ.length := by rw [← same, wipe_length]
        refine ⟨m', less, i + 1, G', (I'.unpinned (pins := [])).weak hl (fun j v e => ?_), T.keep _ _ _ at7 fun b hb o e => (pinned b hb o e).1, fun b hb => ?_, w'⟩
        · rw [← same] at e
          exact (wipe_some e).1
        · obtain ⟨o, e, _⟩ := T.obj _ _ at7 b hb
          exact (pinned b hb o e).2
      cases b with
      | false =>
        rw [if_neg Bool.false_ne_true] at q9 ⊢
        exact next I9 q9
      | true =>
        rw [if_pos rfl] at q9 ⊢
        refine thnF (pe.run _ u9 ρ G9 _ I9 q9) fun z u10 ⟨yv, G10, I10, r10, k, S0, n0, ey, at10, room, nx⟩ => ?_
        subst ey
        refine thnF (mt_sadd (X := X.blk u3 G3 scope ce fp) _ u10 ρ G10 (.ref D) [.int k] _ _ (fun _ G' => Nx G') I10 rfl (.cons r10 .nil) ⟨D, k, S0, n0, rfl, rfl, at10, room, nx⟩) fun _ u11 ⟨_, G11, I11, _, q11⟩ => next I11 q11
  exact PpSet.codeAny_compStart_set loop (T.self X.A 0 _ _ _ at4 loop)
theorem pe_scI {pos : Pos} (hc : X.calm = true) (hN : X.N.Nodup) (hi : PI X tg iter wi) (ok : BlkOk X.N X.env.scope scope own) (B : Blk3 X tg elt ifs scope g tt te) (hfold : ∀ x, foldedSetIterable iter X.env x = pure x := by intro _; rfl) :
    PE X (.SetComp elt [⟨tg, iter, ifs, 0⟩] scope pos) (tScI X.w wi g tt te (own.map (·.2))) := by
  refine ⟨fun pins s σ H Q I h => ?_⟩
  rw [PpSet.eval_SetComp]
  refine scI_core hc hN I hi ok B hfold h fun D L u m G I' q ns f => ⟨m, ns, fun h'' sb => ?_⟩
  obtain ⟨f0, f1, f2, f3, f4, f5⟩ := f
  exact ⟨.ref D, G, I'.turned (t' := u.toks) (fun b o hb e => (sb.2 b hb).trans e) f0 f1 f3 f4 f5, rfl, q⟩
end
end L2
namespace L2
open PySem PySem.Spec PyProof.Rows
section
variable {X : Cx}
/-- len of a set of ints -/
def rLenSI (w : World) : List V → Hp → VK → Prop := fun xs H Q => ∃ (a : Addr) (S : Int → Bool) (n : Nat), xs = [V.ref a] ∧ H a = some (SetO w a S n) ∧ Q (.int n) H
theorem cr_lenSI : CallR X (.builtin "len") (rLenSI X.w) := by
  intro pins s σ H xs us Q I r h
  obtain ⟨a, S, n, rfl, ha, q⟩ := h
  cases r with
  | cons r1 r2 =>
    cases r2
    cases r1
    obtain ⟨o, es, ep, t, ho, hex, hd, _, _, _, hlt, hf, hn, _, _⟩ := setO_get I ha
    have hb : es.size < 2 ^ 62 := Nat.lt_of_lt_of_le hlt (by decide)
    exact PySem.call_len_set ho hex hd hf (by omega) ⟨.int n, H, I.tok _, ⟨_, by rw [hn]⟩, q⟩
/-- the numbers of a list, each once -/
def onceI : List Int → List Int
  | [] => []
  | x :: r => if x ∈ onceI r then onceI r else x :: onceI r
theorem mem_once {x : Int} : ∀ {l : List Int}, x ∈ onceI l ↔ x ∈ l
  | [] => Iff.rfl
  | y :: r => by
    have ih := mem_once (x := x) (l := r)
    unfold onceI
    by_cases h : y ∈ onceI r
    · rw [if_pos h, ih, List.mem_cons]
      refine ⟨.inr, fun q => q.elim (fun e => ?_) id⟩
      subst e
      exact mem_once.mp h
    · rw [if_neg h, List.mem_cons, List.mem_cons, ih]
theorem once_le : ∀ l : List Int, (onceI l).length ≤ l.length
  | [] => Nat.le_refl _
  | y :: r => by
    have ih := once_le r
    unfold onceI
    by_cases h : y ∈ onceI r
    · rw [if_pos h, List.length_cons]; omega
    · rw [if_neg h, List.length_cons, List.length_cons]; omega
theorem once_all : ∀ {l : List Int}, (onceI l).length = l.length ↔ l.Nodup
  | [] => ⟨fun _ => .nil, fun _ => rfl⟩
  | y :: r => by
    have ih := once_all (l := r)
    have le := once_le r
    unfold onceI
    rw [List.nodup_cons]
    by_cases h : y ∈ onceI r
    · rw [if_pos h, List.length_cons]
      exact ⟨fun e => by omega, fun e => absurd (mem_once.mp h) e.1⟩
    · rw [if_neg h, List.length_cons, List.length_cons]
      exact ⟨fun e => ⟨fun q => h (mem_once.mpr q), ih.mp (by omega)⟩, fun e => by rw [ih.mpr e.2]⟩
end
end L2
namespace L2
open PySem PySem.Spec PyProof.Rows
/-- a set comprehension over a walk: Pv by the turn and the heap -/
theorem sc_it {J : It} {n : Nat} {G : Hp → Prop} {Y : Nat → Hp → V → Hp → Prop} (wk : Walk J n G Y) {w : World} {D : Addr} {g : TG} {tt : TT} {te : TE} {vs : List Nat} {σ : St} {H1 : Hp} {Qd : Hp → Prop} (Pv : Nat → Hp → Prop)
    (begins : Pv 0 (upd H1 D (SetO w D (fun _ => false) 0))) (stands : ∀ i H, i ≤ n → Pv i H → G H) (turns : ∀ i x H H', i < n → Pv i H → Y i H x H' → OneTurn w D g tt te vs σ (Pv (i + 1)) x H') (ends : ∀ H, Pv n H → Qd H) : SetWalk w J D g tt te vs σ H1 Qd := by
  refine ⟨fun i m H => i ≤ n ∧ m = n - i ∧ Pv i H, ⟨n, Nat.zero_le _, rfl, begins⟩, ?_⟩
  rintro i m H ⟨hi, rfl, p⟩
  rcases Nat.lt_or_eq_of_le hi with lt | rfl
  · exact .inr ⟨wk.goes i H lt (stands i H hi p), Pv (i + 1), fun H' p' => ⟨n - (i + 1), by omega, lt, rfl, p'⟩, fun x H' y => turns i x H H' lt p (wk.yields i H x H' lt (stands i H hi p) y)⟩
  · exact .inl ⟨wk.stops H (stands i H hi p), ends H p⟩
end L2

namespace RK
open PySem L2
/-! ### integers, walkers, dicts of something -/
theorem in_names : ∀ {zs : List Str} {z : Str}, inV (.str z) (zs.map V.str) = decide (z ∈ zs)
  | [], z => rfl
  | y :: r, z => by
    have ih := in_names (zs := r) (z := z)
    unfold inV at ih ⊢
    rw [List.map_cons, List.any_cons, ih]
    have e1 : eqV (V.str y) (V.str z) = decide (z = y) := by
      show (y == z) = _
      rw [beq_dec]
      by_cases e : y = z
      · subst e; rfl
      · rw [decide_eq_false e, decide_eq_false (fun q => e q.symm)]
    rw [e1]
    simp
theorem flat_names (zs : List Str) : (zs.map V.str).all flatV = true := by
  rw [List.all_map, List.all_eq_true]
  exact fun _ _ => rfl
def Kd.isInt : Kd → Bool
  | .int => true | _ => false
theorem kit_int {K : PySem.W.Frag} (k : Kd) : PySem.W.kitOne K (.type k.nm) (.type "int") = some (k.isInt || k.isBool) := by cases k <;> exact kit_ty (by decide +kernel)
def spIsInt (K : PySem.W.Frag) : Sp := fun vs H Q _ => ∃ v k, vs = [v] ∧ Th K H v k ∧ ∀ H', Same H H' → Q (.bl k.isInt) H'
/-- a walker among names -/
def walkB (zs : List Str) : V → Bool
  | .str z => decide (z ∈ zs)
  | _ => false
theorem Th.no_walk {K : PySem.W.Frag} {H : Hp} {v : V} {k : Kd} {zs : List Str} (h : Th K H v k) (e : k.isStr = false) : walkB zs v = false := by
  cases h <;> first | rfl | cases e
def spIsWalker (K : PySem.W.Frag) : Sp := fun vs H Q _ => ∃ (n : Addr) (zs : List Str) (v : V) (k : Kd), vs = [.ref n, v] ∧ H n = some (.lst (zs.map V.str)) ∧ Th K H v k ∧ ∀ H', Same H H' → Q (.bl (walkB zs v)) H'
/-- an integer by its kind -/
def intB : V → Bool
  | .int _ => true
  | _ => false
theorem Th.int_b {K : PySem.W.Frag} {H : Hp} {v : V} {k : Kd} (h : Th K H v k) : k.isInt = intB v := by
  cases h <;> rfl
/-- a dict from just all the names to integers -/
def dictB (zs : List Str) (kvs : List (Key × V)) : Bool := decide (kvs.length = zs.length) && zs.all fun z => match valV kvs (Sum.inr z : Key) with
  | some v => intB v
  | none => false
def spDictOf (K : PySem.W.Frag) (fI : Addr) : Sp := fun vs H Q _ => ∃ (n : Addr) (zs : List Str) (v : V) (k : Kd), vs = [.ref n, v, .ref fI] ∧ H n = some (.lst (zs.map V.str)) ∧ zs.length ≤ 1000 ∧ Th K H v k ∧
  (k.isDict = false → ∀ H', Same H H' → Q (.bl false) H') ∧
  (k.isDict = true → ∃ d kvs, v = .ref d ∧ H d = some (.dK kvs) ∧ (∀ kv ∈ kvs, ∃ kx, Th K H kv.2 kx) ∧ ∀ H', Same H H' → Q (.bl (dictB zs kvs)) H')
theorem val_mem {kvs : List (Key × V)} {k : Key} {v : V} (h : valV kvs k = some v) : ∃ kv ∈ kvs, kv.2 = v := by
  unfold valV at h
  cases q : kvs.find? fun kv => decide (kv.1 = k) with
  | none => rw [q] at h; cases h
  | some kv =>
    rw [q] at h
    cases h
    exact ⟨kv, List.mem_of_find?_eq_some q, rfl⟩
section
variable {P : Program} {w : World} {K : PySem.W.Frag} {mg : Str → Option Value} {base : Heap}
theorem scIsInt : FnScope ["thing"] ["thing"] (defScope sIsInt) := ⟨rfl, rfl, rfl, by decide +kernel, rfl, by decide +kernel, by decide +kernel⟩
theorem ok_isInt {f : Addr} {fd : FuncData} (F : Fun K "is_integer" "is_integer" sIsInt f fd) (B : B0 K mg) : FnOk P w K mg base CX0 1 f fd ["thing"] (spIsInt K) := by
  refine F.ok scIsInt (fun vs H Q E h => ?_) (fun cdv A outer s H vs Q E hr h => ?_)
  · obtain ⟨v, k, rfl, _⟩ := h
    rfl
  · obtain ⟨v, k, rfl, ht, q⟩ := h
    refine ⟨_, pss_one (ps_ret (pe_and (pe_callB call_isiZ (by rfl) B.isi (by decide +kernel) (pa_cons (pv 0) (pa_cons (pe_bltn (v := .ty "int") (by rfl) B.int (by decide +kernel) rfl) pa_nil)))
      (pe_one (pe_not (pe_callB call_isiZ (by rfl) B.isi (by decide +kernel) (pa_cons (pv 0) (pa_cons (pe_bltn (v := .ty "bool") (by rfl) B.bool (by decide +kernel) rfl) pa_nil))))))), ?_⟩
    refine ⟨_, rfl, v, .ty "int", _, .type "int", _, rfl, .ty _, ht.ty, kit_int k, _, rfl, ?_⟩
    have q' := q H (Same.refl H)
    cases hk : (k.isInt || k.isBool) with
    | false =>
      have e : k.isInt = false := by revert hk; cases k <;> decide
      rw [e] at q'
      exact iteF q'
    | true =>
      refine iteT ⟨_, rfl, v, .ty "bool", _, .type "bool", _, rfl, .ty _, ht.ty, kit_bool k, _, rfl, ?_⟩
      have e : (!k.isBool) = k.isInt := by revert hk; cases k <;> decide
      rw [e]
      exact q'
theorem scIsWalker : FnScope ["names", "thing"] ["names", "thing"] (defScope sIsWalker) := ⟨rfl, rfl, rfl, by decide +kernel, rfl, by decide +kernel, by decide +kernel⟩
theorem ok_isWalker {f : Addr} {fd : FuncData} (F : Fun K "is_walker" "is_walker" sIsWalker f fd) (B : B0 K mg) : FnOk P w K mg base CX0 1 f fd ["names", "thing"] (spIsWalker K) := by
  refine F.ok scIsWalker (fun vs H Q E h => ?_) (fun cdv A outer s H vs Q E hr h => ?_)
  · obtain ⟨n, zs, v, k, rfl, _⟩ := h
    rfl
  · obtain ⟨n, zs, v, k, rfl, hn, ht, q⟩ := h
    refine ⟨_, pss_one (ps_ret (pe_and (pe_callB call_isiZ (by rfl) B.isi (by decide +kernel) (pa_cons (pv 1) (pa_cons (pe_bltn (v := .ty "str") (by rfl) B.str (by decide +kernel) rfl) pa_nil)))
      (pe_one (pe_cmpR op_in_seq (pv 1) (pv 0) (by rfl))))), ?_⟩
    refine ⟨_, rfl, v, .ty "str", _, .type "str", _, rfl, .ty _, ht.ty, kit_str k, _, rfl, ?_⟩
    have q' := q H (Same.refl H)
    cases hk : k.isStr with
    | false =>
      rw [ht.no_walk hk] at q'
      exact iteF q'
    | true =>
      obtain ⟨z, rfl, hz⟩ := ht.str_of hk
      refine iteT ⟨_, rfl, _, rfl, n, _, rfl, .inl (SqL.of hn), rfl, flat_names zs, ?_⟩
      have e : (if false = true then !inV (V.str z) (zs.map V.str) else inV (V.str z) (zs.map V.str)) = walkB zs (.str z) := by
        show inV (V.str z) (zs.map V.str) = _
        rw [in_names]
        rfl
      rw [e]
      exact q'
end
end RK

namespace RK
open PySem L2
theorem all_take {α : Type} {l : List α} {p : α → Bool} : (l.map p).all id = l.all p := by rw [List.all_map]; rfl
/-- is what stands at z in the dict right -/
def isRight (kvs : List (Key × V)) (z : Str) : Bool := match valV kvs (Sum.inr z : Key) with
  | some v => intB v
  | none => false
section
variable {P : Program} {w : World} {K : PySem.W.Frag} {mg : Str → Option Value} {base : Heap}
theorem scDictOf : FnScope ["keys", "thing", "is_right", "key"] ["keys", "thing", "is_right"] (defScope sDictOf) := ⟨rfl, rfl, rfl, by decide +kernel, rfl, by decide +kernel, by decide +kernel⟩
theorem ok_dictOf {f fI : Addr} {fd fdI : FuncData} (F : Fun K "is_dict_of" "is_dict_of" sDictOf f fd) (B : B0 K mg) (FI : Fun K "is_integer" "is_integer" sIsInt fI fdI) (bI : Binds K fdI ["thing"] []) :
    FnOk P w K mg base CX0 2 f fd ["keys", "thing", "is_right"] (spDictOf K fI) := by
  have GI : FnOk P w K mg base CX0 1 fI fdI ["thing"] (spIsInt K) := ok_isInt FI B
  refine F.ok scDictOf (fun vs H Q E h => ?_) (fun cdv A outer s H vs Q E hr h => ?_)
  · obtain ⟨n, zs, v, k, rfl, _⟩ := h
    rfl
  · obtain ⟨n, zs, v, k, rfl, hn, hl, ht, kno, kyes⟩ := h
    have hu := hu_of hr
    refine ⟨_, pss_cons (ps_if (PW.pt (pw_or (pt_not (pt_val (pe_callB call_isiZ (by rfl) B.isi (by decide +kernel) (pa_cons (pv 1) (pa_cons (pe_bltn (v := .ty "dict") (by rfl) B.dict (by decide +kernel) rfl) pa_nil)))))
        (pw_or1 (pt_cmpR op_ne (pe_callB call_lenD (by rfl) B.len PySem.boot_len (pa_cons (pv 1) pa_nil)) (pe_callB call_len_seq (by rfl) B.len PySem.boot_len (pa_cons (pv 0) pa_nil)) (nomark _))))) (pss_one (ps_ret pe_bl)) pss_nil)
      (pss_one (ps_ret (pe_callB (cr_all rfl) (by rfl) B.all (by decide +kernel) (pa_cons (pe_lc (te := tAndV (tDIn (tVar 3) (tVar 1)) (tCallL 2 fI (spIsInt K) [] E0 (tCons (tDGet (tVar 1) (tVar 3)) tNil))) (own := [("key", 3)]) (g := gName 3) (tt := tYes) rfl scDictOf.nd
        (pi_list (pv 0)) (blkOk_by (N := ["keys", "thing", "is_right", "key"]) (sc := defScope sDictOf) (by decide +kernel)) (fun _ _ _ _ _ => pg_name (i := 3) scDictOf.nd rfl (Or.inl rfl)) (fun _ _ _ _ _ => pts_nil)
        (fun _ _ _ _ _ => by exact (pe_and (pe_cmp (pc_din hu (pv 3) (pv 1))) (pe_one (pe_callL GI hr rfl (by first | exact .inl rfl | exact .inr (.inl rfl) | exact .inr (.inr rfl) | exact .inr rfl) FI.kp bI .nil pass0 (pa_cons (pe_dget hu (pv 1) (pv 3) (fun _ _ => rfl)) pa_nil)))))) pa_nil)))), ?_⟩
    refine ⟨_, rfl, v, .ty "dict", _, .type "dict", _, rfl, .ty _, ht.ty, kit_dict k, _, rfl, ?_⟩
    cases hk : k.isDict with
    | false => exact iteT (iteT (kno hk H (Same.refl H)))
    | true =>
      obtain ⟨d, kvs, rfl, hd, hth, q⟩ := kyes hk
      refine iteF ⟨_, rfl, d, kvs, rfl, hd, _, rfl, n, _, rfl, .inl (SqL.of hn), rfl, _, rfl, ?_⟩
      have hlen : (zs.map V.str).length = zs.length := List.length_map _
      by_cases e : kvs.length = zs.length
      · have e' : (!decide (V.int (kvs.length : Nat) = V.int ((zs.map V.str).length : Nat))) = false := by rw [hlen, e]; simp
        rw [e']
        refine iteF ⟨_, rfl, n, rfl, ⟨_, SqL.of hn⟩, fun D hD => ?_⟩
        refine lc_it (walk_list (K := K) (a := n) (xs := zs.map V.str)) (fun i H' => Same H H' ∧ H' D = some (.lst ((zs.take i).map fun z => V.bl (isRight kvs z)))) ⟨same_upd hD, upd_same⟩ (fun i H' _ p => SqL.of (p.1 _ _ hn)) ?_ ?_
        · rintro i x H1 H2 hi ⟨sm, hacc⟩ ⟨rfl, hx⟩
          obtain ⟨z, hz, rfl⟩ : ∃ z, zs[i]? = some z ∧ x = .str z := by
            rw [List.getElem?_map] at hx
            cases qz : zs[i]? with
            | none => rw [qz] at hx; cases hx
            | some z => rw [qz] at hx; cases hx; exact ⟨z, rfl, rfl⟩
          have fin : ∀ H', Same H2 H' → ∃ acc, H' D = some (.lst acc) ∧ acc.length < sizeLine ∧ Same H (upd H' D (.lst (acc ++ [V.bl (isRight kvs z)]))) ∧ (upd H' D (.lst (acc ++ [V.bl (isRight kvs z)]))) D = some (.lst ((zs.take (i + 1)).map fun z => V.bl (isRight kvs z))) := fun H' s' => by
            refine ⟨_, s' _ _ hacc, ?_, fun b u hb => ?_, ?_⟩
            · rw [List.length_map, List.length_take]
              exact Nat.lt_of_le_of_lt (Nat.le_trans (Nat.min_le_right _ _) hl) (by decide)
            · rw [upd_ne (ne_of_none hb hD)]
              exact s' _ _ (sm _ _ hb)
            · rw [upd_same, take_more hz, List.map_append]
              rfl
          refine ⟨rfl, tyes ?_⟩
          refine ⟨_, rfl, _, rfl, d, _, rfl, DGet.k (k := (Sum.inr z : Key)) (sm _ _ hd), _, rfl, ?_⟩
          cases hv : valV kvs (Sum.inr z : Key) with
          | none =>
            refine iteF ?_
            have q' := fin H2 (Same.refl H2)
            have er : isRight kvs z = false := by unfold isRight; rw [hv]
            rw [er] at q'
            exact q'
          | some v =>
            obtain ⟨kv, hkv, rfl⟩ := val_mem hv
            obtain ⟨kx, hkx⟩ := hth kv hkv
            have er : isRight kvs z = kx.isInt := by unfold isRight; rw [hv, hkx.int_b]
            refine iteT ⟨rfl, _, rfl, _, rfl, d, _, rfl, hv ▸ DGet.k (k := (Sum.inr z : Key)) (sm _ _ hd), kv.2, kx, rfl, hkx.same sm, fun H' s' => ?_⟩
            have q' := fin H' s'
            rw [er] at q'
            exact q'
        · rintro H1 ⟨sm, hacc⟩
          have hacc' : H1 D = some (.lst ((zs.map fun z => isRight kvs z).map V.bl)) := by
            rw [hacc, List.map_map, show (zs.map V.str).length = zs.length from hlen, List.take_length]
            rfl
          refine ⟨D, zs.map fun z => isRight kvs z, rfl, SqL.of hacc', ?_⟩
          have q' := q H1 sm
          have er : dictB zs kvs = (zs.map fun z => isRight kvs z).all id := by
            unfold dictB
            rw [decide_eq_true e, Bool.true_and, all_take]
            rfl
          rw [er] at q'
          exact q'
      · have e' : (!decide (V.int (kvs.length : Nat) = V.int ((zs.map V.str).length : Nat))) = true := by
          rw [hlen, decide_eq_false (fun z => e (by have := V.int.inj z; omega))]; rfl
        rw [e']
        have q' := q H (Same.refl H)
        have er : dictB zs kvs = false := by
          unfold dictB
          rw [decide_eq_false e]
          rfl
        rw [er] at q'
        exact iteT q'
end
end RK

namespace RK
open PySem L2
/-! ### stands -/
def placeOf (kvs : List (Key × V)) (z : Str) : Int := match valV kvs (Sum.inr z : Key) with
  | some (.int i) => i
  | _ => 0
def placesOf (zs : List Str) (kvs : List (Key × V)) : List Int := zs.map (placeOf kvs)
def restsOf (zs : List Str) (kvs : List (Key × V)) : List Int := (placesOf zs kvs).map fun p => p % (zs.length : Int)
def standB (zs : List Str) (kvs : List (Key × V)) : Bool := dictB zs kvs && (decide ((placesOf zs kvs).sum = (zs.length : Int) * ((zs.length : Int) - 1) / 2) && decide ((restsOf zs kvs).Nodup))
theorem once_cons {x : Int} {r : List Int} : onceI (x :: r) = if x ∈ onceI r then onceI r else x :: onceI r := rfl
theorem List.nodup_reverse' {l : List Int} : l.reverse.Nodup ↔ l.Nodup := (List.reverse_perm l).nodup_iff
theorem dict_place {zs : List Str} {kvs : List (Key × V)} (h : dictB zs kvs = true) : ∀ z ∈ zs, valV kvs (Sum.inr z : Key) = some (.int (placeOf kvs z)) := fun z hz => by
  unfold dictB at h
  have q := List.all_eq_true.mp (Bool.and_eq_true_iff.mp h).2 z hz
  unfold placeOf
  cases e : valV kvs (Sum.inr z : Key) with
  | none => rw [e] at q; cases q
  | some v =>
    rw [e] at q
    cases v <;> first | rfl | cases q
def spStanding (K : PySem.W.Frag) : Sp := fun vs H Q _ => ∃ (n : Addr) (zs : List Str) (v : V) (k : Kd), vs = [.ref n, v] ∧ H n = some (.lst (zs.map V.str)) ∧ 0 < zs.length ∧ zs.length ≤ 1000 ∧ Th K H v k ∧
  (k.isDict = false → ∀ H', Same H H' → Q (.bl false) H') ∧
  (k.isDict = true → ∃ d kvs, v = .ref d ∧ H d = some (.dK kvs) ∧ (∀ kv ∈ kvs, ∃ kx, Th K H kv.2 kx) ∧ ∀ H', Same H H' → Q (.bl (standB zs kvs)) H')
section
variable {P : Program} {w : World} {K : PySem.W.Frag} {mg : Str → Option Value} {base : Heap}
theorem scStanding : FnScope ["names", "thing", "many", "name"] ["names", "thing"] (defScope sStanding) := ⟨rfl, rfl, rfl, by decide +kernel, rfl, by decide +kernel, by decide +kernel⟩
theorem ok_standing {f fI fD : Addr} {fd fdI fdD : FuncData} (F : Fun K "is_standing" "is_standing" sStanding f fd) (B : B0 K mg) (zsum : mg "sum" = none) (FI : Fun K "is_integer" "is_integer" sIsInt fI fdI) (bI : Binds K fdI ["thing"] []) (gI : mg "is_integer" = some (.ref fI))
    (FD : Fun K "is_dict_of" "is_dict_of" sDictOf fD fdD) (bD : Binds K fdD ["keys", "thing", "is_right"] []) (gD : mg "is_dict_of" = some (.ref fD)) :
    FnOk P w K mg base CX0 3 f fd ["names", "thing"] (spStanding K) := by
  have GD : FnOk P w K mg base CX0 2 fD fdD ["keys", "thing", "is_right"] (spDictOf K fI) := ok_dictOf FD B FI bI
  refine F.ok scStanding (fun vs H Q E h => ?_) (fun cdv A outer s H vs Q E hr h => ?_)
  · obtain ⟨n, zs, v, k, rfl, _⟩ := h
    rfl
  · obtain ⟨n, zs, v, k, rfl, hn, h0, hl, ht, kno, kyes⟩ := h
    have hu := hu_of hr
    refine ⟨_, pss_cons (ps_if (pt_not (pt_val (pe_call GD hr (by rfl) gD FD.kp bD .nil pass0 (pa_cons (pv 0) (pa_cons (pv 1) (pa_cons (pe_glob (v := .ref fI) (by rfl) gI rfl) pa_nil)))))) (pss_one (ps_ret pe_bl)) pss_nil)
      (pss_cons (ps_set (i := 2) scStanding.nd rfl (Or.inr rfl) (pe_callB call_len_seq (by rfl) B.len PySem.boot_len (pa_cons (pv 0) pa_nil)))
      (pss_cons (ps_if (pt_cmpR op_ne (pe_callB (cr_sum rfl) (by rfl) zsum (by decide +kernel) (pa_cons (pe_lc (te := tDGet (tVar 1) (tVar 3)) (own := [("name", 3)]) (g := gName 3) (tt := tYes) rfl scStanding.nd
          (pi_list (pv 0)) (blkOk_by (N := ["names", "thing", "many", "name"]) (sc := defScope sStanding) (by decide +kernel)) (fun _ _ _ _ _ => pg_name (i := 3) scStanding.nd rfl (Or.inl rfl)) (fun _ _ _ _ _ => pts_nil)
          (fun _ _ _ _ _ => by exact (pe_dget hu (pv 1) (pv 3) (fun _ _ => rfl)))) pa_nil)) (pe_op op_fdiv (pe_op op_mul (pv 2) (pe_op op_sub (pv 2) pe_int)) pe_int) (nomark _)) (pss_one (ps_ret pe_bl)) pss_nil)
      (pss_one (ps_ret (pe_cmpR op_eq (pe_callB cr_lenSI (by rfl) B.len (by decide +kernel) (pa_cons (pe_scI (te := tOp (rI (fun _ j => 0 < j) fun i j => .int (i % j)) (tDGet (tVar 1) (tVar 3)) (tVar 2)) (own := [("name", 3)]) (g := gName 3) (tt := tYes) rfl scStanding.nd
          (pi_list (pv 0)) (blkOk_by (N := ["names", "thing", "many", "name"]) (sc := defScope sStanding) (by decide +kernel)) ⟨fun _ _ _ _ _ => pg_name (i := 3) scStanding.nd rfl (Or.inl rfl), fun _ _ _ _ _ => pts_nil,
          fun _ _ _ _ _ => by exact (pe_op op_mod (pe_dget hu (pv 1) (pv 3) (fun _ _ => rfl)) (pv 2))⟩) pa_nil)) (pv 2) (nomark _)))))), ?_⟩
    have hlen : (zs.map V.str).length = zs.length := List.length_map _
    refine ⟨_, rfl, _, rfl, n, zs, v, k, rfl, hn, hl, ht, fun hk H1 s1 => ⟨false, rfl, iteT (kno hk H1 s1)⟩, fun hk => ?_⟩
    obtain ⟨d, kvs, rfl, hd, hth, q⟩ := kyes hk
    refine ⟨d, kvs, rfl, hd, hth, fun H1 s1 => ⟨dictB zs kvs, rfl, ?_⟩⟩
    cases hB : dictB zs kvs with
    | false =>
      have q' := q H1 s1
      have er : standB zs kvs = false := by unfold standB; rw [hB]; rfl
      rw [er] at q'
      exact iteT q'
    | true =>
      have hpl := dict_place hB
      refine iteF ⟨_, rfl, n, _, rfl, .inl (SqL.of (s1 _ _ hn)), ?_⟩
      rw [hlen]
      refine ⟨_, rfl, n, rfl, ⟨_, SqL.of (s1 _ _ hn)⟩, fun D hD => ?_⟩
      have nameAt : ∀ {i : Nat} {x : V}, (zs.map V.str)[i]? = some x → ∃ z, zs[i]? = some z ∧ z ∈ zs ∧ x = .str z := fun {i x} hx => by
        rw [List.getElem?_map] at hx
        cases qz : zs[i]? with
        | none => rw [qz] at hx; cases hx
        | some z => rw [qz] at hx; cases hx; exact ⟨z, rfl, List.mem_of_getElem? qz, rfl⟩
      refine lc_it (walk_list (K := K) (a := n) (xs := zs.map V.str)) (fun i H' => Same H1 H' ∧ H' D = some (.lst ((zs.take i).map fun z => V.int (placeOf kvs z)))) ⟨same_upd hD, upd_same⟩ (fun i H' _ p => SqL.of (p.1 _ _ (s1 _ _ hn))) ?_ ?_
      · rintro i x H2 H3 hi ⟨sm, hacc⟩ ⟨rfl, hx⟩
        obtain ⟨z, hz, hzm, rfl⟩ := nameAt hx
        refine ⟨rfl, tyes ?_⟩
        refine ⟨_, rfl, _, rfl, d, _, rfl, hpl z hzm ▸ DGet.k (k := (Sum.inr z : Key)) (sm _ _ (s1 _ _ hd)), _, hacc, ?_, fun b u hb => ?_, ?_⟩
        · rw [List.length_map, List.length_take]
          exact Nat.lt_of_le_of_lt (Nat.le_trans (Nat.min_le_right _ _) hl) (by decide)
        · rw [upd_ne (ne_of_none hb hD)]
          exact sm _ _ hb
        · rw [upd_same, take_more hz, List.map_append]
          rfl
      · rintro H2 ⟨sm, hacc⟩
        have hacc' : H2 D = some (.lst ((placesOf zs kvs).map V.int)) := by
          rw [hacc, show (zs.map V.str).length = zs.length from hlen, List.take_length]
          unfold placesOf
          rw [List.map_map]
          rfl
        refine ⟨D, placesOf zs kvs, rfl, SqL.of hacc', ?_⟩
        refine ⟨_, rfl, _, rfl, _, _, rfl, rfl, _, _, rfl, rfl, .inl ⟨by omega, by omega⟩, _, _, rfl, rfl, ⟨by decide, by decide⟩, rfl, _, rfl, ?_⟩
        by_cases hsum : (placesOf zs kvs).sum = (zs.length : Int) * ((zs.length : Int) - 1) / 2
        · have e1 : (!decide (V.int (placesOf zs kvs).sum = V.int ((zs.length : Int) * ((zs.length : Int) - 1) / 2))) = false := by rw [hsum]; simp
          rw [e1]
          refine iteF ⟨_, rfl, n, rfl, ⟨_, SqL.of (sm _ _ (s1 _ _ hn))⟩, fun D2 hD2 => ?_⟩
          have hrl : (restsOf zs kvs).length = zs.length := by unfold restsOf placesOf; rw [List.length_map, List.length_map]
          have hpos : (0 : Int) < (zs.length : Nat) := by omega
          refine sc_it (walk_list (K := K) (a := n) (xs := zs.map V.str)) (fun i H' => Same H2 H' ∧ ∃ S m, H' D2 = some (SetO w D2 S m) ∧ (∀ j, S j = decide (j ∈ (restsOf zs kvs).take i)) ∧ m = (onceI ((restsOf zs kvs).take i).reverse).length)
            ⟨same_upd hD2, _, _, upd_same, fun j => by simp, rfl⟩ (fun i H' _ p => SqL.of (p.1 _ _ (sm _ _ (s1 _ _ hn)))) ?_ ?_
          · rintro i x H3 H4 hi ⟨sm3, S, m, hS, hmem, hm⟩ ⟨rfl, hx⟩
            obtain ⟨z, hz, hzm, rfl⟩ := nameAt hx
            have hri : (restsOf zs kvs)[i]? = some (placeOf kvs z % (zs.length : Int)) := by
              unfold restsOf placesOf
              rw [List.getElem?_map, List.getElem?_map, hz]
              rfl
            refine ⟨rfl, tyes ?_⟩
            refine ⟨_, rfl, _, rfl, d, _, rfl, hpl z hzm ▸ DGet.k (k := (Sum.inr z : Key)) (sm3 _ _ (sm _ _ (s1 _ _ hd))), _, rfl, _, _, rfl, rfl, hpos, _, S, m, rfl, hS, ?_, fun b u hb => ?_, _, _, upd_same, fun j => ?_, ?_⟩
            · have le := once_le ((restsOf zs kvs).take i).reverse
              rw [List.length_reverse, List.length_take] at le
              rw [hm]
              exact Nat.lt_of_le_of_lt (Nat.add_le_add_right (Nat.le_trans le (Nat.le_trans (Nat.min_le_right _ _) (by rw [hrl]; exact hl))) 1) (by decide)
            · rw [upd_ne (ne_of_none hb hD2)]
              exact sm3 _ _ hb
            · rw [take_more hri, hmem j]
              simp
            · rw [take_more hri, List.reverse_append]
              show _ = (onceI (placeOf kvs z % (zs.length : Int) :: ((restsOf zs kvs).take i).reverse)).length
              rw [hmem, hm, once_cons]
              by_cases hin : placeOf kvs z % (zs.length : Int) ∈ (restsOf zs kvs).take i
              · rw [decide_eq_true hin, if_pos rfl, if_pos (mem_once.mpr (List.mem_reverse.mpr hin))]
              · rw [decide_eq_false hin, if_neg Bool.false_ne_true, if_neg (fun q => hin (List.mem_reverse.mp (mem_once.mp q))), List.length_cons]
          · rintro H3 ⟨sm3, S, m, hS, hmem, hm⟩
            refine ⟨D2, S, m, rfl, hS, _, rfl, rfl, ?_⟩
            rw [show (zs.map V.str).length = zs.length from hlen, List.take_of_length_le (Nat.le_of_eq hrl)] at hm
            have q' := q H3 (s1.trans (sm.trans sm3))
            have er : standB zs kvs = decide (V.int (m : Nat) = V.int (zs.length : Nat)) := by
              unfold standB
              rw [hB, decide_eq_true hsum, Bool.true_and, Bool.true_and]
              have key : (restsOf zs kvs).Nodup ↔ V.int (m : Nat) = V.int (zs.length : Nat) := by
                rw [← List.nodup_reverse', ← once_all, List.length_reverse, hrl, ← hm]
                exact ⟨fun e => by rw [e], fun e => by have := V.int.inj e; omega⟩
              exact decide_eq_decide.mpr key
            rw [er] at q'
            exact q'
        · have e1 : (!decide (V.int (placesOf zs kvs).sum = V.int ((zs.length : Int) * ((zs.length : Int) - 1) / 2))) = true := by
            rw [decide_eq_false (fun z => hsum (V.int.inj z))]; rfl
          rw [e1]
          have q' := q H2 (s1.trans sm)
          have er : standB zs kvs = false := by unfold standB; rw [hB, decide_eq_false hsum]; rfl
          rw [er] at q'
          exact iteT q'
end
end RK

namespace RK
open PySem L2
/-! ### what refuses -/
/-- an error class with one attribute -/
structure ErrAt (P : Program) (K : PySem.W.Frag) (mg : Str → Option Value) (nm fld : Str) (C f : Addr) : Prop where
  g : mg nm = some (.ref C)
  x : PySem.XW.XTxt P K mg fld C f
/-- a path or a thing that is none -/
def spWalkersOf (K : PySem.W.Frag) (C CP : Addr) : Sp := fun vs H Q E => ∃ v, vs = [v] ∧
  ((∃ k, Th K H v k ∧ ∀ d H', Same H H' → H' d = some (.xd [("thing", v)]) → E (.ref CP) (some d) H') ∨
   ∃ p t zs, v = .ref p ∧ PathAt C H p t zs ∧ ∀ l, H l = none → Q (.ref l) (upd H l (.lst (zs.map V.str))))
/-- names, and a thing that is a stand or none -/
def spNeedSt (K : PySem.W.Frag) (CS : Addr) : Sp := fun vs H Q E => ∃ (n : Addr) (zs : List Str) (v : V) (k : Kd), vs = [.ref n, v] ∧ H n = some (.lst (zs.map V.str)) ∧ 0 < zs.length ∧ zs.length ≤ 1000 ∧ Th K H v k ∧
  (k.isDict = false → ∀ d H', Same H H' → H' d = some (.xd [("stand", v)]) → E (.ref CS) (some d) H') ∧
  (k.isDict = true → ∃ dd kvs, v = .ref dd ∧ H dd = some (.dK kvs) ∧ (∀ kv ∈ kvs, ∃ kx, Th K H kv.2 kx) ∧
    (standB zs kvs = false → ∀ d H', Same H H' → H' d = some (.xd [("stand", v)]) → E (.ref CS) (some d) H') ∧ (standB zs kvs = true → ∀ H', Same H H' → Q .non H'))
def spNeedWa (K : PySem.W.Frag) (CW : Addr) : Sp := fun vs H Q E => ∃ (n : Addr) (zs : List Str) (v : V) (k : Kd), vs = [.ref n, v] ∧ H n = some (.lst (zs.map V.str)) ∧ Th K H v k ∧
  (walkB zs v = false → ∀ d H', Same H H' → H' d = some (.xd [("walker", v)]) → E (.ref CW) (some d) H') ∧ (walkB zs v = true → ∀ H', Same H H' → Q .non H')
section
variable {P : Program} {w : World} {K : PySem.W.Frag} {mg : Str → Option Value} {base : Heap} {C CB fB fE CP fP CS fS CW fW : Addr}
theorem scWalkersOf : FnScope ["path"] ["path"] (defScope sWalkersOf) := ⟨rfl, rfl, rfl, by decide +kernel, rfl, by decide +kernel, by decide +kernel⟩
theorem ok_walkersOf {f fw : Addr} {fd fdw : FuncData} (F : Fun K "walkers_of" "walkers_of" sWalkersOf f fd) (B : B0 K mg) (T : PT0 P K mg C CB fB) (T1 : PT1 K C fE) (EP : ErrAt P K mg "BadPath" "thing" CP fP)
    (FW : Fun K "walkers" "Path.walkers" sWalkers fw fdw) (bw : Binds K fdw ["self"] []) (mw : Meth K C "walkers" fw) : FnOk P w K mg base (L2.CX P w) 2 f fd ["path"] (spWalkersOf K C CP) := by
  have GW : FnOk P w K mg base CX0 1 fw fdw ["self"] (spWalkers C) := ok_walkers FW B T
  refine F.okX scWalkersOf (fun vs H Q E h => ?_) (fun cdv A outer s H vs Q E hr h => ?_)
  · obtain ⟨v, rfl, _⟩ := h
    rfl
  · obtain ⟨v, rfl, h⟩ := h
    refine ⟨_, pss_cons (ps_if (pt_not (pt_val (pe_callB call_isiZ (by rfl) B.isi (by decide +kernel) (pa_cons (pv 0) (pa_cons (pe_glob (v := .ref C) (by rfl) T.mgC rfl) pa_nil))))) (pss_one (ps_raiseX rfl EP.x EP.g hr (takes_of rfl rfl rfl rfl) (by exact (pa_cons (pv 0) pa_nil)))) pss_nil)
      (pss_one (ps_ret (pe_meth0 (pv 0) T.cl mw GW hr bw .nil pass0))), ?_⟩
    rcases h with ⟨k, ht, kbad⟩ | ⟨p, t, zs, rfl, hp, kgood⟩
    · refine ⟨_, rfl, v, .ref C, _, .ref C, false, rfl, .own C, ht.ty, kit_no T1 k, false, rfl, iteT ?_⟩
      exact ⟨_, rfl, _, rfl, fun d hd => kbad d _ (same_upd hd) upd_same⟩
    · refine ⟨_, rfl, .ref p, .ref C, _, .ref C, true, rfl, .own C, hp.ty T T1, kit_yes, true, rfl, iteF ?_⟩
      obtain ⟨dy, ho⟩ := hp.ob
      exact ⟨_, rfl, p, dy, _, rfl, ho, fNames_no t (by decide +kernel), p, t, zs, rfl, hp, fun l hl => kgood l hl⟩
theorem scNeedSt : FnScope ["names", "stand"] ["names", "stand"] (defScope sNeedSt) := ⟨rfl, rfl, rfl, by decide +kernel, rfl, by decide +kernel, by decide +kernel⟩
theorem ok_needSt {f fT : Addr} {fd fdT : FuncData} (F : Fun K "need_stand" "need_stand" sNeedSt f fd) (ES : ErrAt P K mg "BadStand" "stand" CS fS)
    (GT : FnOk P w K mg base CX0 3 fT fdT ["names", "thing"] (spStanding K)) (bT : Binds K fdT ["names", "thing"] []) (gT : mg "is_standing" = some (.ref fT)) (kT : PySem.W.keepIn K (.ref fT) = true) :
    FnOk P w K mg base (L2.CX P w) 4 f fd ["names", "stand"] (spNeedSt K CS) := by
  refine F.okX scNeedSt (fun vs H Q E h => ?_) (fun cdv A outer s H vs Q E hr h => ?_)
  · obtain ⟨n, zs, v, k, rfl, _⟩ := h
    rfl
  · obtain ⟨n, zs, v, k, rfl, hn, h0, hl, ht, kno, kyes⟩ := h
    refine ⟨_, pss_one (ps_if (pt_not (pt_val (pe_call GT hr (by rfl) gT kT bT .nil pass0 (pa_cons (pv 0) (pa_cons (pv 1) pa_nil))))) (pss_one (ps_raiseX rfl ES.x ES.g hr (takes_of rfl rfl rfl rfl) (by exact (pa_cons (pv 1) pa_nil)))) pss_nil), ?_⟩
    refine ⟨_, rfl, _, rfl, n, zs, v, k, rfl, hn, h0, hl, ht, fun hk H1 s1 => ⟨false, rfl, iteT ⟨_, rfl, _, rfl, fun d hd => kno hk d _ (s1.trans (same_upd hd)) upd_same⟩⟩, fun hk => ?_⟩
    obtain ⟨dd, kvs, rfl, hd, hth, kbad, kgood⟩ := kyes hk
    refine ⟨dd, kvs, rfl, hd, hth, fun H1 s1 => ⟨_, rfl, ?_⟩⟩
    cases hB : standB zs kvs with
    | false => exact iteT ⟨_, rfl, _, rfl, fun d hd => kbad hB d _ (s1.trans (same_upd hd)) upd_same⟩
    | true => exact iteF (kgood hB H1 s1)
end
end RK

namespace L2
open PySem PySem.Spec PyProof.Rows
abbrev DTurn (g : TG) (tt : TT) (tk tv : TE) (vs : List Nat) (σ : St) (D : Addr) (Nx : Hp → Prop) (x : V) (G : Hp) : Prop :=
  g x (wipe σ vs) G fun ρ G1 => wipe ρ vs = wipe σ vs ∧ tt ρ G1 fun b G2 => if b = true then tk ρ G2 fun y G3 => tv ρ G3 fun z G4 => ∃ kvs k, y = kV k ∧ G4 D = some (.dK kvs) ∧ kvs.length < sizeLine ∧ Nx (upd G4 D (.dK (putK kvs k z))) else Nx G2
/-- a dict comprehension over a walk -/
theorem dc_it {J : It} {n : Nat} {G : Hp → Prop} {Y : Nat → Hp → V → Hp → Prop} (wk : Walk J n G Y) {D : Addr} {g : TG} {tt : TT} {tk tv : TE} {vs : List Nat} {σ : St} {H1 : Hp} {Qd : Hp → Prop} (Pv : Nat → Hp → Prop)
    (begins : Pv 0 (upd H1 D (.dK []))) (stands : ∀ i H, i ≤ n → Pv i H → G H) (turns : ∀ i x H H', i < n → Pv i H → Y i H x H' → DTurn g tt tk tv vs σ D (Pv (i + 1)) x H') (ends : ∀ H, Pv n H → Qd H) :
    ∃ W : Nat → Nat → Hp → Prop, (∃ m, W 0 m (upd H1 D (.dK []))) ∧ ∀ i m H, W i m H →
      (J.stop i H ∧ Qd H) ∨ (J.go i H ∧ ∃ Nx : Hp → Prop, (∀ H', Nx H' → ∃ m', m' < m ∧ W (i + 1) m' H') ∧ ∀ x H', J.yld i H x H' → DTurn g tt tk tv vs σ D Nx x H') := by
  refine ⟨fun i m H => i ≤ n ∧ m = n - i ∧ Pv i H, ⟨n, Nat.zero_le _, rfl, begins⟩, ?_⟩
  rintro i m H ⟨hi, rfl, p⟩
  rcases Nat.lt_or_eq_of_le hi with lt | rfl
  · exact .inr ⟨wk.goes i H lt (stands i H hi p), Pv (i + 1), fun H' p' => ⟨n - (i + 1), by omega, lt, rfl, p'⟩, fun x H' y => turns i x H H' lt p (wk.yields i H x H' lt (stands i H hi p) y)⟩
  · exact .inl ⟨wk.stops H (stands i H hi p), ends H p⟩
end L2
namespace RK
open PySem L2
/-! ### numbers below n, each once -/
theorem nodup_le : ∀ (n : Nat) (l : List Int), l.Nodup → (∀ x ∈ l, 0 ≤ x ∧ x < (n : Int)) → l.length ≤ n
  | 0, l, _, hb => by
    cases l with
    | nil => exact Nat.le_refl _
    | cons x r => have := hb x List.mem_cons_self; omega
  | n + 1, l, hn, hb => by
    have ih := nodup_le n (l.filter fun x => decide (x ≠ (n : Int))) (hn.sublist List.filter_sublist) (fun x hx => by
      rw [List.mem_filter] at hx
      have := hb x hx.1
      have h2 : x ≠ (n : Int) := of_decide_eq_true hx.2
      omega)
    have hc : l.length = (l.filter fun x => decide (x ≠ (n : Int))).length + (l.filter fun x => !decide (x ≠ (n : Int))).length := by
      clear ih hn hb
      induction l with
      | nil => rfl
      | cons y r ihr =>
        rw [List.filter_cons, List.filter_cons]
        by_cases h : y = (n : Int)
        · rw [if_neg (by simp [h]), if_pos (by simp [h]), List.length_cons, List.length_cons]; omega
        · rw [if_pos (by simp [h]), if_neg (by simp [h]), List.length_cons, List.length_cons]; omega
    have h1 : (l.filter fun x => !decide (x ≠ (n : Int))).length ≤ 1 := by
      have hs : (l.filter fun x => !decide (x ≠ (n : Int))).Nodup := hn.sublist List.filter_sublist
      have he : ∀ x ∈ (l.filter fun x => !decide (x ≠ (n : Int))), x = (n : Int) := fun x hx => by
        rw [List.mem_filter] at hx
        simpa using hx.2
      revert hs he
      generalize (l.filter fun x => !decide (x ≠ (n : Int))) = m
      intro hs he
      match m, hs, he with
      | [], _, _ => exact Nat.zero_le _
      | [x], _, _ => exact Nat.le_refl _
      | x :: y :: r, hs, he =>
        have e1 := he x List.mem_cons_self
        have e2 := he y (List.mem_cons_of_mem _ List.mem_cons_self)
        rw [List.nodup_cons] at hs
        exact absurd (by rw [e1, e2]; exact List.mem_cons_self) hs.1
    omega
theorem pigeon {n : Nat} {l : List Int} (hn : l.Nodup) (hb : ∀ x ∈ l, 0 ≤ x ∧ x < (n : Int)) (hl : l.length = n) {r : Int} (h0 : 0 ≤ r) (h1 : r < (n : Int)) : r ∈ l := by
  refine Classical.byContradiction fun h => ?_
  have := nodup_le n (r :: l) (List.nodup_cons.mpr ⟨h, hn⟩) (fun x hx => by
    rcases List.mem_cons.mp hx with rfl | hx
    · exact ⟨h0, h1⟩
    · exact hb x hx)
  rw [List.length_cons] at this
  omega
/-! ### who is right ahead -/
def nextOf (zs : List Str) (kvs : List (Key × V)) (z : Str) : Option Str := zs.find? fun y => decide (placeOf kvs y % (zs.length : Int) = (placeOf kvs z + 1) % (zs.length : Int))
theorem next_is {zs : List Str} {kvs : List (Key × V)} (h : standB zs kvs = true) (h0 : 0 < zs.length) (z : Str) : ∃ y, nextOf zs kvs z = some y ∧ y ∈ zs ∧ placeOf kvs y % (zs.length : Int) = (placeOf kvs z + 1) % (zs.length : Int) := by
  have hpos : (0 : Int) < (zs.length : Nat) := by omega
  have hnd : (restsOf zs kvs).Nodup := of_decide_eq_true (Bool.and_eq_true_iff.mp (Bool.and_eq_true_iff.mp h).2).2
  have hlen : (restsOf zs kvs).length = zs.length := by unfold restsOf placesOf; rw [List.length_map, List.length_map]
  have hm : (placeOf kvs z + 1) % (zs.length : Int) ∈ restsOf zs kvs := pigeon hnd (fun x hx => by
    unfold restsOf at hx
    obtain ⟨p, _, rfl⟩ := List.mem_map.mp hx
    exact ⟨Int.emod_nonneg _ (by omega), Int.emod_lt_of_pos _ hpos⟩) hlen (Int.emod_nonneg _ (by omega)) (Int.emod_lt_of_pos _ hpos)
  unfold restsOf placesOf at hm
  rw [List.map_map] at hm
  obtain ⟨y, hy, e⟩ := List.mem_map.mp hm
  cases q : nextOf zs kvs z with
  | none =>
    have := List.find?_eq_none.mp q y hy
    exact absurd (decide_eq_true e) this
  | some u =>
    have q2 := q
    unfold nextOf at q2
    have q3 := List.find?_some (p := fun y => decide (placeOf kvs y % (zs.length : Int) = (placeOf kvs z + 1) % (zs.length : Int))) q2
    exact ⟨u, rfl, List.mem_of_find?_eq_some q2, of_decide_eq_true q3⟩
theorem val_rests {g : Str → Int} {r : Int} : ∀ {zs : List Str}, valV (zs.map fun z => ((Sum.inl (g z) : Key), V.str z)) (Sum.inl r : Key) = (zs.find? fun y => decide (g y = r)).map V.str
  | [] => rfl
  | z :: t => by
    rw [List.map_cons, List.find?_cons]
    by_cases h : g z = r
    · rw [valV_pos (by rw [h]), decide_eq_true h]
      rfl
    · rw [valV_neg (fun e => h (Sum.inl.inj e)), decide_eq_false h]
      exact val_rests
theorem put_new {kvs : List (Key × V)} {k : Key} {v : V} (h : ∀ kv ∈ kvs, kv.1 ≠ k) : putK kvs k v = kvs ++ [(k, v)] := by
  unfold putK
  rw [if_neg]
  intro q
  obtain ⟨kv, hkv, e⟩ := List.any_eq_true.mp q
  exact h kv hkv (of_decide_eq_true e)
theorem nodup_take {α : Type} {l : List α} {i : Nat} {x : α} (hn : l.Nodup) (h : l[i]? = some x) : x ∉ l.take i := by
  have e := take_more h
  have hs : (l.take (i + 1)).Nodup := hn.sublist (List.take_sublist _ _)
  rw [e] at hs
  have := (List.nodup_append.mp hs).2.2
  exact fun hm => this x hm x List.mem_cons_self rfl
end RK

namespace RK
open PySem L2
/-! ### first places, who is ahead -/
def firstKv (zs : List Str) : List (Key × V) := zs.zipIdx.map fun p => ((Sum.inr p.1 : Key), V.int (p.2 : Nat))
theorem first_more {l : List Str} {x : Str} : firstKv (l ++ [x]) = firstKv l ++ [((Sum.inr x : Key), V.int (l.length : Nat))] := by
  unfold firstKv
  rw [List.zipIdx_append, List.map_append]
  simp
theorem first_keys {l : List Str} : (firstKv l).map (·.1) = l.map fun z => (Sum.inr z : Key) := by
  unfold firstKv
  rw [List.map_map]
  have e : ((fun x => x.1) ∘ fun (p : Str × Nat) => ((Sum.inr p.1 : Key), V.int (p.2 : Nat))) = (fun z => (Sum.inr z : Key)) ∘ Prod.fst := rfl
  rw [e, ← List.map_map, List.zipIdx_map_fst]
theorem no_key {l : List Str} {x : Str} {kvs : List (Key × V)} (hk : kvs.map (·.1) = l.map fun z => (Sum.inr z : Key)) (h : x ∉ l) : ∀ kv ∈ kvs, kv.1 ≠ (Sum.inr x : Key) := fun kv hkv e => by
  have hm : kv.1 ∈ kvs.map (·.1) := List.mem_map_of_mem hkv
  rw [hk, e] at hm
  obtain ⟨z, hz, e2⟩ := List.mem_map.mp hm
  exact h (Sum.inr.inj e2 ▸ hz)
theorem name_at {zs : List Str} {i : Nat} {x : V} (hx : (zs.map V.str)[i]? = some x) : ∃ z, zs[i]? = some z ∧ z ∈ zs ∧ x = .str z := by
  rw [List.getElem?_map] at hx
  cases qz : zs[i]? with
  | none => rw [qz] at hx; cases hx
  | some z => rw [qz] at hx; cases hx; exact ⟨z, rfl, List.mem_of_getElem? qz, rfl⟩
def spFirstPl (_K : PySem.W.Frag) : Sp := fun vs H Q _ => ∃ (n : Addr) (zs : List Str), vs = [.ref n] ∧ H n = some (.lst (zs.map V.str)) ∧ zs.Nodup ∧ zs.length ≤ 1000 ∧ ∀ d H', H d = none → H' d = some (.dK (firstKv zs)) → Same H H' → Q (.ref d) H'
/-- the dict that tells who is ahead -/
def aheadKv (zs : List Str) (kvs : List (Key × V)) : List (Key × V) := zs.map fun z => ((Sum.inr z : Key), V.str ((nextOf zs kvs z).getD z))
def spAheadOf (_K : PySem.W.Frag) : Sp := fun vs H Q _ => ∃ (n p : Addr) (zs : List Str) (kvs : List (Key × V)), vs = [.ref n, .ref p] ∧ H n = some (.lst (zs.map V.str)) ∧ H p = some (.dK kvs) ∧ zs.Nodup ∧ 0 < zs.length ∧ zs.length ≤ 1000 ∧ standB zs kvs = true ∧
  ∀ d H', H' d = some (.dK (aheadKv zs kvs)) → Same H H' → Q (.ref d) H'
section
variable {P : Program} {w : World} {K : PySem.W.Frag} {mg : Str → Option Value} {base : Heap}
end
end RK

namespace RK
open PySem L2
/-! ### going round -/
/-- of one rest there is one walker -/
theorem rest_inj {zs : List Str} {kvs : List (Key × V)} (h : standB zs kvs = true) {y z : Str} (hy : y ∈ zs) (hz : z ∈ zs) (e : placeOf kvs y % (zs.length : Int) = placeOf kvs z % (zs.length : Int)) : y = z := by
  have hnd : (restsOf zs kvs).Nodup := of_decide_eq_true (Bool.and_eq_true_iff.mp (Bool.and_eq_true_iff.mp h).2).2
  unfold restsOf placesOf at hnd
  rw [List.map_map] at hnd
  obtain ⟨i, hi, rfl⟩ := List.getElem_of_mem hy
  obtain ⟨j, hj, rfl⟩ := List.getElem_of_mem hz
  have hl : ∀ {k : Nat}, k < zs.length → k < (zs.map ((fun p => p % (zs.length : Int)) ∘ placeOf kvs)).length := fun hk => by rw [List.length_map]; exact hk
  have q := (List.getElem_inj (h₀ := hl hi) (h₁ := hl hj) hnd).mp (by rw [List.getElem_map, List.getElem_map]; exact e)
  subst q
  rfl
section
variable {P : Program} {w : World} {K : PySem.W.Frag} {mg : Str → Option Value} {base : Heap} {C CP CS CW : Addr}
end
end RK

/-! comprehensions over zip of two lists or of two tuples -/
namespace L2
open PySem PySem.Spec PyProof.Rows RZ
theorem walk_zipT {K : PySem.W.Frag} {a b : Addr} {xs ys : List V} {n : Nat} (hn : n = min xs.length ys.length) : Walk (ItzT K a b) n (fun H => SqT K H a xs ∧ SqT K H b ys) (YPair (fun i => xs[i]?) (fun i => ys[i]?)) := by
  subst hn
  refine ⟨fun i _ hi q => ?_, fun _ q => ⟨xs, ys, q.1, q.2, ?_⟩, fun i H v H' _ q y => ?_⟩
  · obtain ⟨h1, h2⟩ : i < xs.length ∧ i < ys.length := by omega
    exact ⟨xs, ys, xs[i], ys[i], q.1, q.2, by simp [h1], by simp [h2]⟩
  · omega
  · obtain ⟨T, x, z, e1, e2, e3, e4, e5⟩ := y
    exact ⟨T, x, z, e1, e2, e3, e4 xs q.1, e5 ys q.2⟩
theorem lc_zipA {K : PySem.W.Frag} {a b : Addr} {xs ys : List V} {g : TG} {tt : TT} {te : TE} {vs : List Nat} {σ : St} {H : Hp} {Q : Addr → Hp → Prop} (hl : xs.length = ys.length)
    (hq : (SqL K H a xs ∧ SqL K H b ys) ∨ (SqT K H a xs ∧ SqT K H b ys)) (Pv : Addr → Nat → Hp → Prop) (h0 : ∀ D, H D = none → Pv D 0 (upd H D (.lst [])))
    (hk : ∀ D i H', H D = none → Pv D i H' → Same H H')
    (hs : ∀ D i x y T H', H D = none → xs[i]? = some x → ys[i]? = some y → Pv D i H' → H' T = none → g (.ref T) (wipe σ vs) (upd H' T (.tup [x, y])) fun σ2 H2 => wipe σ2 vs = wipe σ vs ∧ tt σ2 H2 fun b H3 =>
      if b = true then te σ2 H3 fun y H4 => ∃ acc, H4 D = some (.lst acc) ∧ acc.length < sizeLine ∧ Pv D (i + 1) (upd H4 D (.lst (acc ++ [y]))) else Pv D (i + 1) H3) (hd : ∀ D H', H D = none → Pv D xs.length H' → Q D H') :
    (SqL K H a xs ∧ SqL K H b ys ∧ ∀ D, H D = none → ∃ W : Nat → Nat → Hp → Prop, (∃ m, W 0 m (upd H D (.lst []))) ∧ ∀ i m H', W i m H' →
      ((Itz K a b).stop i H' ∧ Q D H') ∨ ((Itz K a b).go i H' ∧ ∃ Nx : Hp → Prop, (∀ H', Nx H' → ∃ m', m' < m ∧ W (i + 1) m' H') ∧ ∀ x H2, (Itz K a b).yld i H' x H2 → g x (wipe σ vs) H2 fun σ2 H2 => wipe σ2 vs = wipe σ vs ∧ tt σ2 H2 fun b H3 =>
        if b = true then te σ2 H3 fun y H4 => ∃ acc, H4 D = some (.lst acc) ∧ acc.length < sizeLine ∧ Nx (upd H4 D (.lst (acc ++ [y]))) else Nx H3)) ∨
    (SqT K H a xs ∧ SqT K H b ys ∧ ∀ D, H D = none → ∃ W : Nat → Nat → Hp → Prop, (∃ m, W 0 m (upd H D (.lst []))) ∧ ∀ i m H', W i m H' →
      ((ItzT K a b).stop i H' ∧ Q D H') ∨ ((ItzT K a b).go i H' ∧ ∃ Nx : Hp → Prop, (∀ H', Nx H' → ∃ m', m' < m ∧ W (i + 1) m' H') ∧ ∀ x H2, (ItzT K a b).yld i H' x H2 → g x (wipe σ vs) H2 fun σ2 H2 => wipe σ2 vs = wipe σ vs ∧ tt σ2 H2 fun b H3 =>
        if b = true then te σ2 H3 fun y H4 => ∃ acc, H4 D = some (.lst acc) ∧ acc.length < sizeLine ∧ Nx (upd H4 D (.lst (acc ++ [y]))) else Nx H3)) := by
  have keepT : ∀ {H' : Hp} {c : Addr} {zs : List V}, SqT K H c zs → Same H H' → SqT K H' c zs := fun {H' c zs} h e => by
    rcases h with (h | ⟨o, h⟩) | h
    · exact .inl (.inl (e _ _ h))
    · exact .inl (.inr ⟨o, e _ _ h⟩)
    · exact .inr h
  rcases hq with ⟨q1, q2⟩ | ⟨q1, q2⟩
  · refine .inl ⟨q1, q2, fun D hD => lc_it (Qd := fun H' => Q D H') (walk_zip (K := K) (a := a) (b := b) (xs := xs) (ys := ys) (n := xs.length) (by omega)) (Pv D) (h0 D hD) (fun i H' _ p => ⟨(hk D i H' hD p).seq q1, (hk D i H' hD p).seq q2⟩) ?_ (fun H' p => hd D H' hD p)⟩
    rintro i x H1 H2 hi p ⟨T, x1, y, rfl, hT, rfl, e1, e2⟩
    exact hs D i x1 y T H1 hD e1 e2 p hT
  · refine .inr ⟨q1, q2, fun D hD => lc_it (Qd := fun H' => Q D H') (walk_zipT (K := K) (a := a) (b := b) (xs := xs) (ys := ys) (n := xs.length) (by omega)) (Pv D) (h0 D hD) (fun i H' _ p => ⟨keepT q1 (hk D i H' hD p), keepT q2 (hk D i H' hD p)⟩) ?_ (fun H' p => hd D H' hD p)⟩
    rintro i x H1 H2 hi p ⟨T, x1, y, rfl, hT, rfl, e1, e2⟩
    exact hs D i x1 y T H1 hD e1 e2 p hT
end L2

namespace RK
open PySem L2 RZ
/-- two things that are told alike, to the depth n -/
theorem get_map {α : Type} {l : List α} {f : α → V} {i : Nat} {x : V} (h : (l.map f)[i]? = some x) : ∃ t, l[i]? = some t ∧ x = f t := by
  rw [List.getElem?_map] at h
  cases q : l[i]? with
  | none => rw [q] at h; cases h
  | some t => rw [q] at h; cases h; exact ⟨t, rfl, rfl⟩
theorem paired_get {α β : Type} {F : α → β → Prop} : ∀ {l : List α} {m : List β} {i : Nat} {a : α}, Paired F l m → l[i]? = some a → ∃ b, m[i]? = some b ∧ F a b
  | _, _, 0, _, .cons h _, e => by cases e; exact ⟨_, rfl, h⟩
  | _, _, i + 1, _, .cons _ t, e => paired_get (i := i) t e
def keyOk : Key → Prop
  | .inl _ => True
  | .inr z => z.length ≤ 1000
/-- alike, of the same kinds, down to depth n -/
inductive SameD (H : Hp) : Nat → V → V → Prop where
  | non {n : Nat} : SameD H n .non .non
  | int {n : Nat} (i : Int) : SameD H n (.int i) (.int i)
  | bl {n : Nat} (b : Bool) : SameD H n (.bl b) (.bl b)
  | str {n : Nat} {z : Str} (h : z.length ≤ 1000) : SameD H n (.str z) (.str z)
  | lst {n : Nat} {a b : Addr} {xs ys : List V} (ha : H a = some (.lst xs)) (hb : H b = some (.lst ys)) (hl : xs.length = ys.length) (h1 : xs.length ≤ 1000) (h : ∀ (i : Nat) (x y : V), xs[i]? = some x → ys[i]? = some y → SameD H n x y) : SameD H (n + 1) (.ref a) (.ref b)
  | tup {n : Nat} {a b : Addr} {xs ys : List V} (ha : H a = some (.tup xs)) (hb : H b = some (.tup ys)) (hl : xs.length = ys.length) (h1 : xs.length ≤ 1000) (h : ∀ (i : Nat) (x y : V), xs[i]? = some x → ys[i]? = some y → SameD H n x y) : SameD H (n + 1) (.ref a) (.ref b)
  | dict {n : Nat} {a b : Addr} {ks ls : List (Key × V)} (ha : H a = some (.dK ks)) (hb : H b = some (.dK ls)) (hl : ks.length = ls.length) (h1 : ks.length ≤ 1000) (hk : ∀ (i : Nat) (p q : Key × V), ks[i]? = some p → ls[i]? = some q → p.1 = q.1 ∧ keyOk p.1)
      (h : ∀ (i : Nat) (p q : Key × V), ks[i]? = some p → ls[i]? = some q → SameD H n p.2 q.2) : SameD H (n + 3) (.ref a) (.ref b)
theorem SameD.mono {H H' : Hp} (s : Same H H') : ∀ {n : Nat} {x y : V}, SameD H n x y → SameD H' n x y
  | _, _, _, .non => .non
  | _, _, _, .int i => .int i
  | _, _, _, .bl b => .bl b
  | _, _, _, .str h => .str h
  | _, _, _, .lst ha hb hl h1 h => .lst (s _ _ ha) (s _ _ hb) hl h1 fun i x y e1 e2 => SameD.mono s (h i x y e1 e2)
  | _, _, _, .tup ha hb hl h1 h => .tup (s _ _ ha) (s _ _ hb) hl h1 fun i x y e1 e2 => SameD.mono s (h i x y e1 e2)
  | _, _, _, .dict ha hb hl h1 hk h => .dict (s _ _ ha) (s _ _ hb) hl h1 hk fun i p q e1 e2 => SameD.mono s (h i p q e1 e2)
/-- both are of one kind -/
theorem SameD.kd {K : PySem.W.Frag} {H : Hp} {n : Nat} {x y : V} (h : SameD H n x y) : ∃ k, Th K H x k ∧ Th K H y k ∧ (k.isDict = true → k.isSeq = false) ∧ (k.isSeq = false → k.isDict = false → x = y ∧ scal x y = true) := by
  cases h with
  | non => exact ⟨.non, .non, .non, (fun q => nomatch q), fun _ _ => ⟨rfl, rfl⟩⟩
  | int i => exact ⟨.int, .int i, .int i, (fun q => nomatch q), fun _ _ => ⟨rfl, rfl⟩⟩
  | bl b => exact ⟨.bool, .bl b, .bl b, (fun q => nomatch q), fun _ _ => ⟨rfl, rfl⟩⟩
  | str h => exact ⟨.str, .str h, .str h, (fun q => nomatch q), fun _ _ => ⟨rfl, rfl⟩⟩
  | lst ha hb hl h1 h => exact ⟨.list, .lst ha, .lst hb, (fun q => nomatch q), fun q => nomatch q⟩
  | tup ha hb hl h1 h => exact ⟨.tup, .tup ha, .tup hb, (fun q => nomatch q), fun q => nomatch q⟩
  | dict ha hb hl h1 hk h => exact ⟨.dict, .dict ha, .dict hb, fun _ => rfl, fun _ q => nomatch q⟩
def spSame (n : Nat) : Sp := fun vs H Q _ => ∃ x y, vs = [x, y] ∧ SameD H n x y ∧ ∀ H', Same H H' → Q (.bl true) H'
theorem kit_seq3 {K : PySem.W.Frag} (k : Kd) : PySem.W.kitAny K (.type k.nm) [.type "dict", .type "list", .type "tuple"] = some (k.isDict || k.isSeq) := by
  cases k <;> first
    | exact kitAny_cons (b := true) (kit_ty (by decide +kernel)) (fun z => nomatch z) (fun _ => rfl)
    | exact kitAny_cons (b := false) (kit_ty (by decide +kernel)) (fun _ => kit_seq _) (fun z => nomatch z)
theorem kit_three {K : PySem.W.Frag} (k : Kd) : PySem.W.kitAny K (.type k.nm) [.type "list", .type "tuple", .type "dict"] = some (k.isDict || k.isSeq) := by
  cases k <;> first
    | exact kitAny_cons (b := true) (kit_ty (by decide +kernel)) (fun z => nomatch z) (fun _ => rfl)
    | exact kitAny_cons (b := false) (kit_ty (by decide +kernel)) (fun _ => kitAny_cons (b := true) (kit_ty (by decide +kernel)) (fun z => nomatch z) (fun _ => rfl)) (fun z => nomatch z)
    | exact kitAny_cons (b := false) (kit_ty (by decide +kernel)) (fun _ => kitAny_cons (b := false) (kit_ty (by decide +kernel)) (fun _ => kitAny_cons (b := true) (kit_ty (by decide +kernel)) (fun z => nomatch z) (fun _ => rfl)) (fun z => nomatch z)) (fun z => nomatch z)
    | exact kitAny_cons (b := false) (kit_ty (by decide +kernel)) (fun _ => kitAny_cons (b := false) (kit_ty (by decide +kernel)) (fun _ => kitAny_cons (b := false) (kit_ty (by decide +kernel)) (fun _ => kitAny_nil) (fun z => nomatch z)) (fun z => nomatch z)) (fun z => nomatch z)
section
variable {P : Program} {w : World} {K : PySem.W.Frag} {mg : Str → Option Value} {base : Heap}
theorem SameD.seq {H : Hp} {n : Nat} {x y : V} {k : Kd} (h : SameD H n x y) (hx : Th K H x k) (e : k.isSeq = true) : ∃ m a b xs ys, n = m + 1 ∧ x = .ref a ∧ y = .ref b ∧ xs.length = ys.length ∧ xs.length ≤ 1000 ∧ (∀ (i : Nat) (x y : V), xs[i]? = some x → ys[i]? = some y → SameD H m x y) ∧
    ((H a = some (.lst xs) ∧ H b = some (.lst ys) ∧ k.isList = true ∧ k.isTup = false) ∨ (H a = some (.tup xs) ∧ H b = some (.tup ys) ∧ k.isList = false ∧ k.isTup = true)) := by
  cases h with
  | non => cases hx; cases e
  | int i => cases hx; cases e
  | bl b => cases hx; cases e
  | str h => cases hx; cases e
  | lst ha hb hl h1 h =>
    cases hx with
    | lst q => exact ⟨_, _, _, _, _, rfl, rfl, rfl, hl, h1, h, .inl ⟨ha, hb, rfl, rfl⟩⟩
    | tup q => rw [ha] at q; cases q
    | dict q => cases e
    | fn q c => cases e
  | tup ha hb hl h1 h =>
    cases hx with
    | lst q => rw [ha] at q; cases q
    | tup q => exact ⟨_, _, _, _, _, rfl, rfl, rfl, hl, h1, h, .inr ⟨ha, hb, rfl, rfl⟩⟩
    | dict q => cases e
    | fn q c => cases e
  | dict ha hb hl h1 hk h =>
    cases hx with
    | lst q => rw [ha] at q; cases q
    | tup q => rw [ha] at q; cases q
    | dict q => cases e
    | fn q c => cases e
theorem SameD.dct {H : Hp} {n : Nat} {x y : V} {k : Kd} (h : SameD H n x y) (hx : Th K H x k) (e : k.isDict = true) : ∃ m a b ks ls, n = m + 3 ∧ x = .ref a ∧ y = .ref b ∧ H a = some (.dK ks) ∧ H b = some (.dK ls) ∧ ks.length = ls.length ∧ ks.length ≤ 1000 ∧
    (∀ (i : Nat) (p q : Key × V), ks[i]? = some p → ls[i]? = some q → p.1 = q.1 ∧ keyOk p.1) ∧ ∀ (i : Nat) (p q : Key × V), ks[i]? = some p → ls[i]? = some q → SameD H m p.2 q.2 := by
  cases h with
  | non => cases hx; cases e
  | int i => cases hx; cases e
  | bl b => cases hx; cases e
  | str h => cases hx; cases e
  | lst ha hb hl h1 h =>
    cases hx with
    | lst q => cases e
    | tup q => cases e
    | dict q => rw [ha] at q; cases q
    | fn q c => cases e
  | tup ha hb hl h1 h =>
    cases hx with
    | lst q => cases e
    | tup q => cases e
    | dict q => rw [ha] at q; cases q
    | fn q c => cases e
  | dict ha hb hl h1 hk h => exact ⟨_, _, _, _, _, rfl, rfl, rfl, ha, hb, hl, h1, hk, h⟩
theorem scSame : FnScope ["found", "wanted", "mine", "theirs"] ["found", "wanted"] (defScope sSameB) := ⟨rfl, rfl, rfl, by decide +kernel, rfl, by decide +kernel, by decide +kernel⟩
theorem ok_same0 {f : Addr} {fd : FuncData} (F : Fun K "_law_same" "_law_same" sSameB f fd) (B : B0 K mg) : FnOk P w K mg base CX0 1 f fd ["found", "wanted"] (spSame 0) := by
  refine F.ok scSame (fun vs H Q E h => ?_) (fun cdv A outer s H vs Q E hr h => ?_)
  · obtain ⟨x, y, rfl, _⟩ := h
    rfl
  · obtain ⟨x, y, rfl, hd, q⟩ := h
    refine ⟨_, pss_cons (ps_if (pt_val (pe_callB call_isiTZ (by rfl) B.isi (by decide +kernel) (pa_cons (pv 1) (pa_cons (pe_tup (pa_cons (pe_bltn (v := .ty "list") (by rfl) B.list (by decide +kernel) rfl) (pa_cons (pe_bltn (v := .ty "tuple") (by rfl) B.tuple (by decide +kernel) rfl) pa_nil))) pa_nil)))) pss_never pss_nil)
      (pss_cons (ps_if (pt_val (pe_callB call_isiZ (by rfl) B.isi (by decide +kernel) (pa_cons (pv 1) (pa_cons (pe_bltn (v := .ty "dict") (by rfl) B.dict (by decide +kernel) rfl) pa_nil)))) pss_never pss_nil)
      (pss_cons (ps_if (PW.pt (pw_or (pt_val (pe_callB call_isiZ (by rfl) B.isi (by decide +kernel) (pa_cons (pv 1) (pa_cons (pe_bltn (v := .ty "bool") (by rfl) B.bool (by decide +kernel) rfl) pa_nil)))) (pw_or1 (pt_val (pe_callB call_isiZ (by rfl) B.isi (by decide +kernel) (pa_cons (pv 0) (pa_cons (pe_bltn (v := .ty "bool") (by rfl) B.bool (by decide +kernel) rfl) pa_nil))))))) (pss_one (ps_ret (pe_and (pe_callB call_isiZ (by rfl) B.isi (by decide +kernel) (pa_cons (pv 1) (pa_cons (pe_bltn (v := .ty "bool") (by rfl) B.bool (by decide +kernel) rfl) pa_nil))) (pe_and (pe_callB call_isiZ (by rfl) B.isi (by decide +kernel) (pa_cons (pv 0) (pa_cons (pe_bltn (v := .ty "bool") (by rfl) B.bool (by decide +kernel) rfl) pa_nil))) (pe_one (pe_cmpR op_eq (pv 0) (pv 1) (nomark _))))))) pss_nil)
      (pss_one (ps_ret (pe_and (pe_not (pe_callB call_isiTZ (by rfl) B.isi (by decide +kernel) (pa_cons (pv 0) (pa_cons (pe_tup (pa_cons (pe_bltn (v := .ty "list") (by rfl) B.list (by decide +kernel) rfl) (pa_cons (pe_bltn (v := .ty "tuple") (by rfl) B.tuple (by decide +kernel) rfl) (pa_cons (pe_bltn (v := .ty "dict") (by rfl) B.dict (by decide +kernel) rfl) pa_nil)))) pa_nil)))) (pe_one (pe_cmpR op_eq (pv 0) (pv 1) (nomark _)))))))), ?_⟩
    obtain ⟨k, hx, hy, _, kleaf⟩ := hd.kd (K := K)
    have kseq : k.isSeq = false := by
      cases hd <;> cases hx <;> first | rfl | contradiction
    have kdict : k.isDict = false := by
      cases hd <;> cases hx <;> first | rfl | contradiction
    have hleaf := kleaf kseq kdict
    refine ⟨_, rfl, by show 2 ≤ sizeLine; decide, fun p hp => ?_⟩
    have s1 := same_upd (o := .tup [.ty "list", .ty "tuple"]) hp
    refine ⟨y, p, [.ty "list", .ty "tuple"], _, [.type "list", .type "tuple"], false, rfl, upd_same, .cons (.ty _) (.cons (.ty _) .nil), (hy.same s1).ty, kseq ▸ kit_seq k, false, rfl, iteF ?_⟩
    refine ⟨_, rfl, y, .ty "dict", _, .type "dict", false, rfl, .ty _, (hy.same s1).ty, kdict ▸ kit_dict k, false, rfl, iteF ?_⟩
    refine ⟨_, rfl, y, .ty "bool", _, .type "bool", _, rfl, .ty _, (hy.same s1).ty, kit_bool k, _, rfl, ?_⟩
    cases kb : k.isBool with
    | true =>
      refine iteT ?_
      refine iteT ?_
      refine ⟨_, rfl, y, .ty "bool", _, .type "bool", _, rfl, .ty _, (hy.same s1).ty, kit_bool k, _, rfl, ?_⟩
      rw [kb]
      refine iteT ⟨_, rfl, x, .ty "bool", _, .type "bool", _, rfl, .ty _, (hx.same s1).ty, kit_bool k, _, rfl, ?_⟩
      rw [kb]
      refine iteT ⟨_, rfl, _, rfl, hleaf.2, ?_⟩
      rw [decide_eq_true hleaf.1]
      exact q _ s1
    | false =>
      refine iteF ?_
      refine ⟨_, rfl, x, .ty "bool", _, .type "bool", _, rfl, .ty _, (hx.same s1).ty, kit_bool k, _, rfl, ?_⟩
      rw [kb]
      refine iteF ?_
      refine ⟨_, rfl, by show 3 ≤ sizeLine; decide, fun p2 hp2 => ?_⟩
      have s2 := s1.trans (same_upd (o := .tup [.ty "list", .ty "tuple", .ty "dict"]) hp2)
      refine ⟨x, p2, [.ty "list", .ty "tuple", .ty "dict"], _, [.type "list", .type "tuple", .type "dict"], false, rfl, upd_same, .cons (.ty _) (.cons (.ty _) (.cons (.ty _) .nil)), (hx.same s2).ty, ?_, ?_⟩
      · rw [kit_three, kdict, kseq]; rfl
      refine ⟨_, rfl, _, rfl, iteT ⟨_, rfl, _, rfl, hleaf.2, ?_⟩⟩
      rw [decide_eq_true hleaf.1]
      exact q _ s2
theorem ok_same {f : Addr} {fd : FuncData} (F : Fun K "_law_same" "_law_same" sSameB f fd) (B : B0 K mg) (bS : Binds K fd ["found", "wanted"] []) (gS : mg "_law_same" = some (.ref f)) : ∀ n, FnOk P w K mg base CX0 (n + 1) f fd ["found", "wanted"] (spSame n)
  | 0 => ok_same0 F B
  | n + 1 => by
    have G : FnOk P w K mg base CX0 (n + 1) f fd ["found", "wanted"] (spSame n) := ok_same F B bS gS n
    refine F.ok scSame (fun vs H Q E h => ?_) (fun cdv A outer s H vs Q E hr h => ?_)
    · obtain ⟨x, y, rfl, _⟩ := h
      rfl
    · obtain ⟨x, y, rfl, hd, q⟩ := h
      refine ⟨_, pss_cons (ps_if (pt_val (pe_callB call_isiTZ (by rfl) B.isi (by decide +kernel) (pa_cons (pv 1) (pa_cons (pe_tup (pa_cons (pe_bltn (v := .ty "list") (by rfl) B.list (by decide +kernel) rfl) (pa_cons (pe_bltn (v := .ty "tuple") (by rfl) B.tuple (by decide +kernel) rfl) pa_nil))) pa_nil))))
          (pss_cons (ps_if (PW.pt (pw_or (pt_cmpR op_ne (pe_callB call_isiZ (by rfl) B.isi (by decide +kernel) (pa_cons (pv 0) (pa_cons (pe_bltn (v := .ty "list") (by rfl) B.list (by decide +kernel) rfl) pa_nil))) (pe_callB call_isiZ (by rfl) B.isi (by decide +kernel) (pa_cons (pv 1) (pa_cons (pe_bltn (v := .ty "list") (by rfl) B.list (by decide +kernel) rfl) pa_nil))) (nomark _))
              (pw_or1 (pt_cmpR op_ne (pe_callB call_isiZ (by rfl) B.isi (by decide +kernel) (pa_cons (pv 0) (pa_cons (pe_bltn (v := .ty "tuple") (by rfl) B.tuple (by decide +kernel) rfl) pa_nil))) (pe_callB call_isiZ (by rfl) B.isi (by decide +kernel) (pa_cons (pv 1) (pa_cons (pe_bltn (v := .ty "tuple") (by rfl) B.tuple (by decide +kernel) rfl) pa_nil))) (nomark _))))) (pss_one (ps_ret pe_bl)) pss_nil)
          (pss_one (ps_ret (pe_and (pe_cmpR op_eq (pe_callB call_len_seq (by rfl) B.len PySem.boot_len (pa_cons (pv 0) pa_nil)) (pe_callB call_len_seq (by rfl) B.len PySem.boot_len (pa_cons (pv 1) pa_nil)) (nomark _))
            (pe_one (pe_callB (cr_all rfl) (by rfl) B.all (by decide +kernel) (pa_cons (pe_lc (te := tCall (spSame n) [] E0 (tCons (tVar 2) (tCons (tVar 3) tNil))) (own := [("mine", 2), ("theirs", 3)]) (g := gTup K 2 (gCons (gName 2) (gCons (gName 3) gNil))) (tt := tYes) rfl scSame.nd (pi_zipA (by rfl) B.zip (pa_cons (pv 0) (pa_cons (pv 1) pa_nil)))
              (blkOk_by (N := ["found", "wanted", "mine", "theirs"]) (sc := defScope sSameB) (by decide +kernel)) (fun _ _ _ _ _ => by exact (pg_tup rfl (pgs_cons (pg_name (i := 2) scSame.nd rfl (Or.inl rfl)) (pgs_cons (pg_name (i := 3) scSame.nd rfl (Or.inl rfl)) pgs_nil)))) (fun _ _ _ _ _ => pts_nil)
              (fun _ _ _ _ _ => by exact (pe_call G hr (by rfl) gS F.kp bS .nil pass0 (pa_cons (pv 2) (pa_cons (pv 3) pa_nil))))) pa_nil))))))) pss_nil)
        (pss_cons (ps_if (pt_val (pe_callB call_isiZ (by rfl) B.isi (by decide +kernel) (pa_cons (pv 1) (pa_cons (pe_bltn (v := .ty "dict") (by rfl) B.dict (by decide +kernel) rfl) pa_nil))))
          (pss_one (ps_ret (pe_and (pe_callB call_isiZ (by rfl) B.isi (by decide +kernel) (pa_cons (pv 0) (pa_cons (pe_bltn (v := .ty "dict") (by rfl) B.dict (by decide +kernel) rfl) pa_nil)))
            (pe_one (pe_call G hr (by rfl) gS F.kp bS .nil pass0 (pa_cons (LiI.pe_listItems rfl (pv 0) (by rfl) B.list (by decide +kernel)) (pa_cons (LiI.pe_listItems rfl (pv 1) (by rfl) B.list (by decide +kernel)) pa_nil))))))) pss_nil)
        (pss_cons (ps_if (PW.pt (pw_or (pt_val (pe_callB call_isiZ (by rfl) B.isi (by decide +kernel) (pa_cons (pv 1) (pa_cons (pe_bltn (v := .ty "bool") (by rfl) B.bool (by decide +kernel) rfl) pa_nil)))) (pw_or1 (pt_val (pe_callB call_isiZ (by rfl) B.isi (by decide +kernel) (pa_cons (pv 0) (pa_cons (pe_bltn (v := .ty "bool") (by rfl) B.bool (by decide +kernel) rfl) pa_nil))))))) (pss_one (ps_ret (pe_and (pe_callB call_isiZ (by rfl) B.isi (by decide +kernel) (pa_cons (pv 1) (pa_cons (pe_bltn (v := .ty "bool") (by rfl) B.bool (by decide +kernel) rfl) pa_nil))) (pe_and (pe_callB call_isiZ (by rfl) B.isi (by decide +kernel) (pa_cons (pv 0) (pa_cons (pe_bltn (v := .ty "bool") (by rfl) B.bool (by decide +kernel) rfl) pa_nil))) (pe_one (pe_cmpR op_eq (pv 0) (pv 1) (nomark _))))))) pss_nil)
        (pss_one (ps_ret (pe_and (pe_not (pe_callB call_isiTZ (by rfl) B.isi (by decide +kernel) (pa_cons (pv 0) (pa_cons (pe_tup (pa_cons (pe_bltn (v := .ty "list") (by rfl) B.list (by decide +kernel) rfl) (pa_cons (pe_bltn (v := .ty "tuple") (by rfl) B.tuple (by decide +kernel) rfl) (pa_cons (pe_bltn (v := .ty "dict") (by rfl) B.dict (by decide +kernel) rfl) pa_nil)))) pa_nil)))) (pe_one (pe_cmpR op_eq (pv 0) (pv 1) (nomark _)))))))), ?_⟩
      obtain ⟨k, hx, hy, kds, kleaf⟩ := hd.kd (K := K)
      refine ⟨_, rfl, by show 2 ≤ sizeLine; decide, fun p hp => ?_⟩
      have s1 := same_upd (o := .tup [.ty "list", .ty "tuple"]) hp
      refine ⟨y, p, [.ty "list", .ty "tuple"], _, [.type "list", .type "tuple"], k.isSeq, rfl, upd_same, .cons (.ty _) (.cons (.ty _) .nil), (hy.same s1).ty, kit_seq k, _, rfl, ?_⟩
      cases kseq : k.isSeq with
      | true =>
        refine iteT ?_
        obtain ⟨m, a, b, xs, ys, hm, rfl, rfl, hl, h1, hin, hkind⟩ := hd.seq hx kseq
        cases hm
        refine ⟨_, rfl, .ref a, .ty "list", _, .type "list", _, rfl, .ty _, (hx.same s1).ty, kit_list k, _, rfl, .ref b, .ty "list", _, .type "list", _, rfl, .ty _, (hy.same s1).ty, kit_list k, rfl, _, rfl, iteNS rfl ?_⟩
        refine ⟨_, rfl, .ref a, .ty "tuple", _, .type "tuple", _, rfl, .ty _, (hx.same s1).ty, kit_tup k, _, rfl, .ref b, .ty "tuple", _, .type "tuple", _, rfl, .ty _, (hy.same s1).ty, kit_tup k, rfl, _, rfl, iteNS rfl ?_⟩
        have hq0 : (SqL K _ a xs ∧ SqL K _ b ys) ∨ (SqT K _ a xs ∧ SqT K _ b ys) := hkind.elim (fun e => .inl ⟨SqL.of (s1 _ _ e.1), SqL.of (s1 _ _ e.2.1)⟩) fun e => .inr ⟨SqT.of (s1 _ _ e.1), SqT.of (s1 _ _ e.2.1)⟩
        have la : SqL K _ a xs ∨ SqT K _ a xs := hq0.elim (fun e => .inl e.1) fun e => .inr e.1
        have lb : SqL K _ b ys ∨ SqT K _ b ys := hq0.elim (fun e => .inl e.2) fun e => .inr e.2
        refine ⟨_, rfl, a, xs, rfl, la, _, rfl, b, ys, rfl, lb, rfl, true, by rw [hl]; exact congrArg V.bl (decide_eq_true rfl), iteT ?_⟩
        refine ⟨_, rfl, _, rfl, a, b, xs, ys, rfl, lc_zipA hl hq0 (fun D i H' => Same (upd H p (.tup [.ty "list", .ty "tuple"])) H' ∧ H' D = some (.lst (List.replicate i (V.bl true)))) (fun D hD => ⟨same_upd hD, upd_same⟩) (fun D i H' hD pv => pv.1) ?_ ?_⟩
        · rintro D i x y T H' hD ex ey ⟨sm, hacc⟩ hT
          have sT := same_upd (o := .tup [x, y]) hT
          refine ⟨T, _, rfl, SqT.of upd_same, rfl, _, _, rfl, _, _, rfl, rfl, rfl, tyes ?_⟩
          refine ⟨_, rfl, _, rfl, x, y, rfl, (hin i x y ex ey).mono (s1.trans (sm.trans sT)), fun H3 sm3 => ⟨_, sm3 _ _ (sT _ _ hacc), ?_, ?_, ?_⟩⟩
          · rw [List.length_replicate]
            exact Nat.lt_of_lt_of_le (List.getElem?_eq_some_iff.mp ex).1 (Nat.le_trans h1 (by decide))
          · exact fun c o e => by rw [upd_ne (ne_of_none e hD)]; exact sm3 _ _ (sT _ _ (sm c o e))
          · rw [upd_same, ← List.replicate_succ']
        · rintro D H' hD ⟨sm, hacc⟩
          refine ⟨D, List.replicate xs.length true, rfl, SqL.of (by rw [hacc, List.map_replicate]), ?_⟩
          have e : (List.replicate xs.length true).all id = true := by simp
          rw [e]
          exact q _ (s1.trans sm)
      | false =>
      refine iteF ?_
      refine ⟨_, rfl, y, .ty "dict", _, .type "dict", _, rfl, .ty _, (hy.same s1).ty, kit_dict k, _, rfl, ?_⟩
      cases kdict : k.isDict with
      | true =>
        obtain ⟨m, a, b, ks, ls, hm, rfl, rfl, ha, hb, hl, h1, hk, hv⟩ := hd.dct hx kdict
        refine iteT ⟨_, rfl, .ref a, .ty "dict", _, .type "dict", _, rfl, .ty _, (hx.same s1).ty, kit_dict k, _, rfl, ?_⟩
        rw [kdict]
        refine iteT ⟨_, rfl, a, ks, rfl, s1 _ _ ha, fun H1 p1 ts1 s1' hp1 hts1 hpt1 e1 t1 => ?_⟩
        refine ⟨_, rfl, b, ls, rfl, s1' _ _ (s1 _ _ hb), fun H2 p2 ts2 s2 hp2 hts2 hpt2 e2 t2 => ?_⟩
        have hn : n = m + 2 := by omega
        subst hn
        have l1 : ts1.length = ks.length := Paired.length t1
        have l2 : ts2.length = ls.length := Paired.length t2
        have sA : Same H H1 := Same.trans s1 s1'
        refine ⟨.ref p1, .ref p2, rfl, .lst (s2 _ _ e1) e2 (by rw [List.length_map, List.length_map, l1, l2, hl]) (by rw [List.length_map, l1]; exact h1) (fun i u v eu ev => ?_), fun H3 s3 => q H3 (Same.trans sA (Same.trans s2 s3))⟩
        obtain ⟨tu, htu, rfl⟩ := get_map eu
        obtain ⟨tv, htv, rfl⟩ := get_map ev
        obtain ⟨p, hp, ep⟩ := paired_get t1 htu
        obtain ⟨w2, hw, ew⟩ := paired_get t2 htv
        refine .tup (s2 _ _ ep) ew rfl (by show 2 ≤ 1000; decide) fun n' x1 x2 g1 g2 => ?_
        obtain ⟨ek, ok⟩ := hk i p w2 hp hw
        match n', g1, g2 with
        | 0, rfl, g2 =>
          have e2 : kV w2.1 = x2 := Option.some.inj g2
          rw [← e2, ← ek]
          cases hkk : p.1 with
          | inl j => exact .int j
          | inr z => rw [hkk] at ok; exact .str ok
        | 1, rfl, rfl => exact (hv i p w2 hp hw).mono (Same.trans sA s2)
      | false =>
      have hleaf : x = y ∧ scal x y = true := kleaf kseq kdict
      refine iteF ?_
      refine ⟨_, rfl, y, .ty "bool", _, .type "bool", _, rfl, .ty _, (hy.same s1).ty, kit_bool k, _, rfl, ?_⟩
      cases kb : k.isBool with
      | true =>
        refine iteT ?_
        refine iteT ?_
        refine ⟨_, rfl, y, .ty "bool", _, .type "bool", _, rfl, .ty _, (hy.same s1).ty, kit_bool k, _, rfl, ?_⟩
        rw [kb]
        refine iteT ⟨_, rfl, x, .ty "bool", _, .type "bool", _, rfl, .ty _, (hx.same s1).ty, kit_bool k, _, rfl, ?_⟩
        rw [kb]
        refine iteT ⟨_, rfl, _, rfl, hleaf.2, ?_⟩
        rw [decide_eq_true hleaf.1]
        exact q _ s1
      | false =>
        refine iteF ?_
        refine ⟨_, rfl, x, .ty "bool", _, .type "bool", _, rfl, .ty _, (hx.same s1).ty, kit_bool k, _, rfl, ?_⟩
        rw [kb]
        refine iteF ?_
        refine ⟨_, rfl, by show 3 ≤ sizeLine; decide, fun p2 hp2 => ?_⟩
        have s2 := s1.trans (same_upd (o := .tup [.ty "list", .ty "tuple", .ty "dict"]) hp2)
        refine ⟨x, p2, [.ty "list", .ty "tuple", .ty "dict"], _, [.type "list", .type "tuple", .type "dict"], false, rfl, upd_same, .cons (.ty _) (.cons (.ty _) (.cons (.ty _) .nil)), (hx.same s2).ty, ?_, ?_⟩
        · rw [kit_three, kdict, kseq]; rfl
        refine ⟨_, rfl, _, rfl, iteT ⟨_, rfl, _, rfl, hleaf.2, ?_⟩⟩
        rw [decide_eq_true hleaf.1]
        exact q _ s2
end
end RK

namespace L2
open PySem PySem.Spec PyProof.Rows
/-- len of a dict, also of one that is walked -/
theorem call_lenR {X : Cx} : CallR X (.builtin "len") (fun xs H Q => ∃ a kvs, xs = [V.ref a] ∧ Rd H a (.dK kvs) ∧ Q (.int (kvs.length : Nat)) H) := by
  intro pins s σ H xs us Q I r h
  obtain ⟨a, kvs, rfl, ha, q⟩ := h
  cases r with
  | cons r1 r2 =>
    cases r2
    cases r1
    exact d_len I ha fun t s' I' => ⟨.int (kvs.length : Nat), H, I', ⟨t, rfl⟩, q⟩
end L2
namespace RK
open PySem L2
/-! ### stands as the law keeps them -/
structure Sta (zs ks : List Str) (kvs : List (Key × V)) : Prop where
  eq : kvs = ks.map fun z => ((Sum.inr z : Key), V.int (placeOf kvs z))
  pm : ks.Perm zs
  ok : standB zs kvs = true
theorem Sta.len {zs ks : List Str} {kvs : List (Key × V)} (h : Sta zs ks kvs) : kvs.length = zs.length := by
  rw [h.eq, List.length_map, h.pm.length_eq]
theorem Sta.val {zs ks : List Str} {kvs : List (Key × V)} (h : Sta zs ks kvs) {z : Str} (hz : z ∈ zs) : valV kvs (Sum.inr z : Key) = some (.int (placeOf kvs z)) := dict_place (Bool.and_eq_true_iff.mp h.ok).1 z hz
def spRest : Sp := fun vs H Q _ => ∃ (d : Addr) (z : Str) (m p : Int) (kvs : List (Key × V)), vs = [.ref d, .str z, .int m] ∧ Rd H d (.dK kvs) ∧ valV kvs (Sum.inr z : Key) = some (.int p) ∧ 0 < kvs.length ∧ ∀ H', Same H H' → Q (.int ((p + m) % (kvs.length : Int))) H'
def spWAhead : Sp := fun vs H Q _ => ∃ (d : Addr) (zs ks : List Str) (kvs : List (Key × V)) (z : Str), vs = [.ref d, .str z] ∧ H d = some (.dK kvs) ∧ Sta zs ks kvs ∧ z ∈ zs ∧ 0 < zs.length ∧ zs.length ≤ 1000 ∧ ∀ H', Same H H' → Q (.str ((nextOf zs kvs z).getD z)) H'
section
variable {P : Program} {w : World} {K : PySem.W.Frag} {mg : Str → Option Value} {base : Heap}
end
end RK

namespace RK
open PySem L2
/-! ### stands made of places -/
def kvOf (ks : List Str) (g : Str → Int) : List (Key × V) := ks.map fun u => ((Sum.inr u : Key), V.int (g u))
theorem val_kv {g : Str → Int} {z : Str} : ∀ {ks : List Str}, z ∈ ks → valV (kvOf ks g) (Sum.inr z : Key) = some (.int (g z))
  | [], h => nomatch h
  | y :: r, h => by
    unfold kvOf
    rw [List.map_cons]
    by_cases e : y = z
    · subst e; rw [valV_pos rfl]
    · rw [valV_neg (fun t => e (Sum.inr.inj t))]
      exact val_kv ((List.mem_cons.mp h).resolve_left fun t => e t.symm)
theorem place_kv {ks : List Str} {g : Str → Int} {z : Str} (h : z ∈ ks) : placeOf (kvOf ks g) z = g z := by
  unfold placeOf
  rw [val_kv h]
theorem kv_congr {ks : List Str} {g g' : Str → Int} (h : ∀ z ∈ ks, g z = g' z) : kvOf ks g = kvOf ks g' := List.map_congr_left fun z hz => by rw [h z hz]
theorem Sta.mk' {zs ks : List Str} {g : Str → Int} (pm : ks.Perm zs) (hs : (zs.map g).sum = (zs.length : Int) * ((zs.length : Int) - 1) / 2) (hr : (zs.map fun u => g u % (zs.length : Int)).Nodup) : Sta zs ks (kvOf ks g) := by
  have hp : ∀ z ∈ zs, placeOf (kvOf ks g) z = g z := fun z hz => place_kv (pm.mem_iff.mpr hz)
  refine ⟨?_, pm, ?_⟩
  · show kvOf ks g = kvOf ks fun z => placeOf (kvOf ks g) z
    exact kv_congr fun z hz => (place_kv hz).symm
  · have e1 : placesOf zs (kvOf ks g) = zs.map g := List.map_congr_left hp
    have e2 : restsOf zs (kvOf ks g) = zs.map fun u => g u % (zs.length : Int) := by
      unfold restsOf
      rw [e1, List.map_map]
      rfl
    have hd : dictB zs (kvOf ks g) = true := by
      unfold dictB
      have hl : (kvOf ks g).length = zs.length := by unfold kvOf; rw [List.length_map, pm.length_eq]
      rw [decide_eq_true hl, Bool.true_and, List.all_eq_true]
      intro z hz
      rw [val_kv (pm.mem_iff.mpr hz)]
      rfl
    unfold standB
    rw [hd, e1, e2, decide_eq_true hs, decide_eq_true hr]
    rfl
theorem Sta.kv {zs ks : List Str} {kvs : List (Key × V)} (h : Sta zs ks kvs) : kvs = kvOf ks (placeOf kvs) := h.eq
theorem Sta.sum {zs ks : List Str} {kvs : List (Key × V)} (h : Sta zs ks kvs) : (zs.map (placeOf kvs)).sum = (zs.length : Int) * ((zs.length : Int) - 1) / 2 := of_decide_eq_true (Bool.and_eq_true_iff.mp (Bool.and_eq_true_iff.mp h.ok).2).1
theorem put_kv {ks : List Str} {g : Str → Int} {z : Str} {v : Int} (h : z ∈ ks) : putK (kvOf ks g) (Sum.inr z : Key) (.int v) = kvOf ks fun u => if u = z then v else g u := by
  unfold putK
  rw [if_pos]
  · unfold kvOf
    rw [List.map_map]
    refine List.map_congr_left fun u hu => ?_
    show (if (Sum.inr u : Key) = Sum.inr z then ((Sum.inr u : Key), V.int v) else ((Sum.inr u : Key), V.int (g u))) = _
    by_cases e : u = z
    · subst e
      rw [if_pos rfl]
      show _ = ((Sum.inr u : Key), V.int (if u = u then v else g u))
      rw [if_pos rfl]
    · rw [if_neg (fun t => e (Sum.inr.inj t))]
      show _ = ((Sum.inr u : Key), V.int (if u = z then v else g u))
      rw [if_neg e]
  · rw [valV_any, val_kv h]
    rfl
theorem sum_one {z : Str} {c : Int} : ∀ {l : List Str}, l.Nodup → (l.map fun u => if u = z then c else 0).sum = if z ∈ l then c else 0
  | [], _ => rfl
  | y :: r, h => by
    rw [List.nodup_cons] at h
    rw [List.map_cons, List.sum_cons, sum_one h.2]
    by_cases e : y = z
    · subst e
      rw [if_pos rfl, if_neg h.1, if_pos List.mem_cons_self]
      omega
    · rw [if_neg e]
      by_cases hz : z ∈ r
      · rw [if_pos hz, if_pos (List.mem_cons_of_mem _ hz)]; omega
      · rw [if_neg hz, if_neg (fun q => (List.mem_cons.mp q).elim (fun t => e t.symm) hz)]; omega
theorem sum_add {f g : Str → Int} : ∀ {l : List Str}, (l.map fun u => f u + g u).sum = (l.map f).sum + (l.map g).sum
  | [] => rfl
  | y :: r => by
    rw [List.map_cons, List.sum_cons, List.map_cons, List.sum_cons, List.map_cons, List.sum_cons, sum_add]
    omega
theorem nodup_inj {α : Type} {f : Str → α} : ∀ {l : List Str}, l.Nodup → (∀ a ∈ l, ∀ b ∈ l, f a = f b → a = b) → (l.map f).Nodup
  | [], _, _ => .nil
  | y :: r, h, hi => by
    rw [List.nodup_cons] at h
    rw [List.map_cons, List.nodup_cons]
    refine ⟨fun q => ?_, nodup_inj h.2 fun a ha b hb => hi a (List.mem_cons_of_mem _ ha) b (List.mem_cons_of_mem _ hb)⟩
    obtain ⟨u, hu, e⟩ := List.mem_map.mp q
    exact h.1 (hi u (List.mem_cons_of_mem _ hu) y List.mem_cons_self e ▸ hu)
/-- one overtakes the one right ahead: the places behind it -/
def overOf (zs : List Str) (kvs : List (Key × V)) (z : Str) (u : Str) : Int := if u = (nextOf zs kvs z).getD z then placeOf kvs ((nextOf zs kvs z).getD z) - 1 else if u = z then placeOf kvs z + 1 else placeOf kvs u
theorem next_ne {zs : List Str} {kvs : List (Key × V)} {z y : Str} (h2 : 2 ≤ zs.length) (e : placeOf kvs y % (zs.length : Int) = (placeOf kvs z + 1) % (zs.length : Int)) : y ≠ z := by
  intro q
  subst q
  have hn : (2 : Int) ≤ (zs.length : Nat) := by omega
  have h1 := Int.emod_emod_of_dvd (placeOf kvs y + 1 - placeOf kvs y) (Int.dvd_refl (zs.length : Int))
  have h3 : (placeOf kvs y + 1 - placeOf kvs y) % (zs.length : Int) = 0 := by
    rw [Int.sub_emod, ← e, Int.sub_self]
    rfl
  rw [show placeOf kvs y + 1 - placeOf kvs y = 1 by omega, Int.emod_eq_of_lt (by omega) (by omega)] at h3
  cases h3
theorem Sta.over {zs ks : List Str} {kvs : List (Key × V)} (h : Sta zs ks kvs) (nd : zs.Nodup) (h2 : 2 ≤ zs.length) {z : Str} (hz : z ∈ zs) : Sta zs ks (kvOf ks (overOf zs kvs z)) := by
  obtain ⟨y, hy1, hy2, hy3⟩ := next_is h.ok (by omega) z
  have hne : y ≠ z := next_ne h2 hy3
  have ho : ∀ u, overOf zs kvs z u = if u = y then placeOf kvs y - 1 else if u = z then placeOf kvs z + 1 else placeOf kvs u := fun u => by
    unfold overOf
    rw [hy1]
    rfl
  have hpos : (0 : Int) < (zs.length : Nat) := by omega
  refine Sta.mk' h.pm ?_ ?_
  · have e : ∀ u ∈ zs, overOf zs kvs z u = placeOf kvs u + ((if u = z then 1 else 0) + (if u = y then -1 else 0)) := fun u _ => by
      rw [ho u]
      by_cases e1 : u = y
      · rw [if_pos e1, if_neg (fun q => hne (e1 ▸ q)), if_pos e1, e1]; omega
      · rw [if_neg e1, if_neg e1]
        by_cases e2 : u = z
        · rw [if_pos e2, if_pos e2, e2]; omega
        · rw [if_neg e2, if_neg e2]; omega
    rw [List.map_congr_left e, sum_add, sum_add, sum_one nd, sum_one nd, if_pos hz, if_pos hy2, ← h.sum]
    omega
  · have swap : ∀ u ∈ zs, overOf zs kvs z u % (zs.length : Int) = placeOf kvs (if u = y then z else if u = z then y else u) % (zs.length : Int) := fun u _ => by
      rw [ho u]
      by_cases e1 : u = y
      · rw [if_pos e1, if_pos e1, Int.sub_emod, hy3, ← Int.sub_emod]
        congr 1
        omega
      · rw [if_neg e1, if_neg e1]
        by_cases e2 : u = z
        · rw [if_pos e2, if_pos e2, hy3]
        · rw [if_neg e2, if_neg e2]
    have mem : ∀ u ∈ zs, (if u = y then z else if u = z then y else u) ∈ zs := fun u hu => by
      by_cases e1 : u = y
      · rw [if_pos e1]; exact hz
      · rw [if_neg e1]
        by_cases e2 : u = z
        · rw [if_pos e2]; exact hy2
        · rw [if_neg e2]; exact hu
    refine nodup_inj nd fun a ha b hb e => ?_
    rw [swap a ha, swap b hb] at e
    have q := rest_inj h.ok (mem a ha) (mem b hb) e
    have inv : ∀ u, (if (if u = y then z else if u = z then y else u) = y then z else if (if u = y then z else if u = z then y else u) = z then y else (if u = y then z else if u = z then y else u)) = u := fun u => by
      by_cases e1 : u = y
      · rw [if_pos e1, if_neg (fun t => hne t.symm), if_pos rfl, e1]
      · rw [if_neg e1]
        by_cases e2 : u = z
        · rw [if_pos e2, if_pos rfl, e2]
        · rw [if_neg e2, if_neg e1, if_neg e2]
    rw [← inv a, q, inv b]
end RK

namespace RK
open PySem L2
theorem merge_app : ∀ {more acc : List (Key × V)}, ((acc ++ more).map (·.1)).Nodup → mergeK acc more = acc ++ more
  | [], acc, _ => by rw [List.append_nil]; rfl
  | kv :: r, acc, h => by
    have e : acc ++ kv :: r = (acc ++ [kv]) ++ r := by simp
    show mergeK (putK acc kv.1 kv.2) r = _
    rw [put_new fun p hp q => ?_, e]
    · exact merge_app (by rw [← e]; exact h)
    · rw [List.map_append, List.map_cons] at h
      have := (List.nodup_append.mp h).2.2
      exact this p.1 (List.mem_map_of_mem hp) kv.1 List.mem_cons_self q
theorem merge_self {kvs : List (Key × V)} (h : (kvs.map (·.1)).Nodup) : mergeK [] kvs = kvs := merge_app (acc := []) h
theorem keys_kv {ks : List Str} {g : Str → Int} : (kvOf ks g).map (·.1) = ks.map fun z => (Sum.inr z : Key) := by
  unfold kvOf
  rw [List.map_map]
  rfl
theorem nodup_keys {ks : List Str} (h : ks.Nodup) : (ks.map fun z => (Sum.inr z : Key)).Nodup := nodup_inj h fun _ _ _ _ e => Sum.inr.inj e
theorem Sta.keys {zs ks : List Str} {kvs : List (Key × V)} (h : Sta zs ks kvs) (nd : zs.Nodup) : (kvs.map (·.1)).Nodup := by
  rw [h.kv, keys_kv]
  exact nodup_keys (h.pm.nodup_iff.mpr nd)
def spWFirst : Sp := fun vs H Q _ => ∃ (n : Addr) (zs : List Str), vs = [.ref n] ∧ H n = some (.lst (zs.map V.str)) ∧ zs.Nodup ∧ zs.length ≤ 1000 ∧ ∀ d H', H d = none → H' d = some (.dK (firstKv zs)) → Same H H' → Q (.ref d) H'
def spWOver : Sp := fun vs H Q _ => ∃ (d : Addr) (zs ks : List Str) (kvs : List (Key × V)) (z : Str), vs = [.ref d, .str z] ∧ H d = some (.dK kvs) ∧ Sta zs ks kvs ∧ zs.Nodup ∧ z ∈ zs ∧ 2 ≤ zs.length ∧ zs.length ≤ 1000 ∧
  ∀ e H', H e = none → H' e = some (.dK (kvOf ks (overOf zs kvs z))) → Same H H' → Q (.ref e) H'
section
variable {P : Program} {w : World} {K : PySem.W.Frag} {mg : Str → Option Value} {base : Heap}
end
end RK

namespace RK
open PySem L2
theorem SpAt.lst {H : Hp} {a : Addr} {m : Nat} (h : SpAt H a m) : ∃ ys, H a = some (.lst ys) := by
  obtain ⟨o, ho, x, y, c, rfl, _⟩ := h
  exact ⟨_, ho⟩
theorem SpAt.same {H H' : Hp} {a : Addr} {m : Nat} (h : SpAt H a m) (s : Same H H') : SpAt H' a m := by
  obtain ⟨o, ho, q⟩ := h
  exact ⟨o, s _ _ ho, q⟩
theorem keys_list {ks : List Str} {g : Str → Int} : ((kvOf ks g).map fun kv => kV kv.1) = ks.map V.str := by
  unfold kvOf
  rw [List.map_map]
  rfl
theorem over_le {zs ks : List Str} {kvs : List (Key × V)} {z : Str} {B : Nat} (h : Sta zs ks kvs) (h0 : 0 < zs.length) (hz : z ∈ zs) (hb : ∀ u ∈ zs, (placeOf kvs u).natAbs ≤ B) : ∀ u ∈ zs, (placeOf (kvOf ks (overOf zs kvs z)) u).natAbs ≤ B + 1 := fun u hu => by
  rw [place_kv (h.pm.mem_iff.mpr hu)]
  obtain ⟨y, hy1, hy2, _⟩ := next_is h.ok h0 z
  have e1 := hb y hy2
  have e2 := hb z hz
  have e3 := hb u hu
  unfold overOf
  rw [hy1]
  show (if u = y then placeOf kvs y - 1 else if u = z then placeOf kvs z + 1 else placeOf kvs u).natAbs ≤ B + 1
  split
  · omega
  · split
    · omega
    · omega
/-- a run of overtakings from one stand to another -/
inductive Goes (zs ks : List Str) : List (Key × V) → List (Str × Str) → List (Key × V) → Prop where
  | nil {kvs : List (Key × V)} : Goes zs ks kvs [] kvs
  | snoc {kvs kv1 : List (Key × V)} {rn : List (Str × Str)} {z : Str} (h : Goes zs ks kvs rn kv1) (hz : z ∈ zs) : Goes zs ks kvs (rn ++ [(z, (nextOf zs kv1 z).getD z)]) (kvOf ks (overOf zs kv1 z))
/-- a list of pairs at r -/
def PairsAt (H : Hp) (r : Addr) (rn : List (Str × Str)) : Prop := ∃ ts : List Addr, H r = some (.lst (ts.map V.ref)) ∧ Paired (fun (t : Addr) (pr : Str × Str) => t ≠ r ∧ H t = some (.tup [.str pr.1, .str pr.2])) ts rn
theorem PairsAt.same {H H' : Hp} {r : Addr} {rn : List (Str × Str)} (h : PairsAt H r rn) (s : Same H H') : PairsAt H' r rn := by
  obtain ⟨ts, h1, h2⟩ := h
  exact ⟨ts, s _ _ h1, Paired.mono (fun t pr e => ⟨e.1, s _ _ e.2⟩) h2⟩
/-- a stand that is told: at e, in the order ks, its places by g -/
def spWRun : Sp := fun vs H Q _ => ∃ (a d : Addr) (zs ks : List Str) (kvs : List (Key × V)) (N m B : Nat), vs = [.ref a, .ref d, .int (N : Nat)] ∧ (∀ z ∈ zs, (placeOf kvs z).natAbs ≤ B) ∧ a ≠ d ∧ SpAt H a m ∧ m + N < 2000000000 ∧ H d = some (.dK kvs) ∧ Sta zs ks kvs ∧ zs.Nodup ∧ 2 ≤ zs.length ∧ zs.length ≤ 1000 ∧ N ≤ 1000 ∧
  ∀ p r e kvs' rn H', H' p = some (.tup [.ref r, .ref e]) → PairsAt H' r rn → Goes zs ks kvs rn kvs' → rn.length = N → H r = none → H' e = some (.dK kvs') → Sta zs ks kvs' → (∀ z ∈ zs, (placeOf kvs' z).natAbs ≤ B + N) → e ≠ a → SpAt H' a (m + N) → But a H H' → Q (.ref p) H'
section
variable {P : Program} {w : World} {K : PySem.W.Frag} {mg : Str → Option Value} {base : Heap}
end
end RK

namespace RK
open PySem L2
/-! ### the first stand is one -/
theorem sum_range : ∀ n : Nat, 2 * ((List.range n).map fun i => ((i : Nat) : Int)).sum = (n : Int) * ((n : Int) - 1)
  | 0 => rfl
  | n + 1 => by
    rw [List.range_succ, List.map_append, List.sum_append, List.map_singleton, List.sum_singleton, Int.mul_add, sum_range n]
    have e : ((n + 1 : Nat) : Int) = (n : Int) + 1 := by omega
    rw [e, show (n : Int) + 1 - 1 = n by omega, Int.add_mul, Int.mul_sub, Int.one_mul, Int.mul_one]
    omega
theorem half_sum (n : Nat) : ((List.range n).map fun i => ((i : Nat) : Int)).sum = (n : Int) * ((n : Int) - 1) / 2 := by
  have := sum_range n
  omega
theorem idx_range {zs : List Str} (nd : zs.Nodup) : (zs.map fun z => ((zs.idxOf z : Nat) : Int)) = (List.range zs.length).map fun i => ((i : Nat) : Int) := by
  refine List.ext_getElem (by rw [List.length_map, List.length_map, List.length_range]) fun i h1 h2 => ?_
  rw [List.getElem_map, List.getElem_map, List.getElem_range]
  rw [List.length_map] at h1
  rw [nd.idxOf_getElem i h1]
theorem first_kv {zs : List Str} (nd : zs.Nodup) : firstKv zs = kvOf zs fun z => ((zs.idxOf z : Nat) : Int) := by
  unfold firstKv kvOf
  refine List.ext_getElem (by rw [List.length_map, List.length_map, List.length_zipIdx]) fun i h1 h2 => ?_
  rw [List.length_map] at h2
  rw [List.getElem_map, List.getElem_map, List.getElem_zipIdx]
  show ((Sum.inr zs[i] : Key), V.int ((0 + i : Nat) : Int)) = ((Sum.inr zs[i] : Key), V.int ((zs.idxOf zs[i] : Nat) : Int))
  rw [nd.idxOf_getElem i h2, Nat.zero_add]
theorem first_sta {zs : List Str} (nd : zs.Nodup) (h0 : 0 < zs.length) : Sta zs zs (firstKv zs) := by
  rw [first_kv nd]
  refine Sta.mk' (List.Perm.refl _) ?_ ?_
  · rw [idx_range nd]
    exact half_sum _
  · refine nodup_inj nd fun x hx y hy e => ?_
    have h1 := List.idxOf_lt_length_of_mem hx
    have h2 := List.idxOf_lt_length_of_mem hy
    rw [Int.emod_eq_of_lt (by omega) (by omega), Int.emod_eq_of_lt (by omega) (by omega)] at e
    have e' : zs.idxOf x = zs.idxOf y := by omega
    rw [← List.getElem_idxOf h1, ← List.getElem_idxOf h2]
    congr 1
theorem first_le {zs : List Str} (nd : zs.Nodup) {n : Nat} (hl : zs.length ≤ n) : ∀ z ∈ zs, (placeOf (firstKv zs) z).natAbs ≤ n := fun z hz => by
  rw [first_kv nd, place_kv hz]
  have := List.idxOf_lt_length_of_mem hz
  omega
def spWNear : Sp := fun vs H Q _ => ∃ (a n : Addr) (zs : List Str) (N m : Nat), vs = [.ref a, .ref n, .int (N : Nat)] ∧ a ≠ n ∧ SpAt H a m ∧ m < 1000000000 ∧ H n = some (.lst (zs.map V.str)) ∧ zs.Nodup ∧ 2 ≤ zs.length ∧ zs.length ≤ 1000 ∧ N < 1000 ∧
  ∀ e kvs H', H' e = some (.dK kvs) → Sta zs zs kvs → (∀ z ∈ zs, (placeOf kvs z).natAbs ≤ 2000) → e ≠ a → SpAt H' a (m + 1000) → But a H H' → Q (.ref e) H'
section
variable {P : Program} {w : World} {K : PySem.W.Frag} {mg : Str → Option Value} {base : Heap}
end
end RK

namespace RK
open PySem L2
theorem paired_perm {α β : Type} {F : α → β → Prop} {ts' ts : List α} (h : ts'.Perm ts) : ∀ {ms : List β}, Paired F ts ms → ∃ ms', ms'.Perm ms ∧ Paired F ts' ms' := by
  induction h with
  | nil => intro ms q; exact ⟨ms, List.Perm.refl _, q⟩
  | cons x _ ih =>
    intro ms q
    cases q with
    | cons q1 q2 =>
      obtain ⟨ms', p, r⟩ := ih q2
      exact ⟨_, p.cons _, .cons q1 r⟩
  | swap x y l =>
    intro ms q
    cases q with
    | cons q1 q2 =>
      cases q2 with
      | cons q3 q4 => exact ⟨_, List.Perm.swap _ _ _, .cons q3 (.cons q1 q4)⟩
  | trans _ _ ih1 ih2 =>
    intro ms q
    obtain ⟨m2, p2, r2⟩ := ih2 q
    obtain ⟨m1, p1, r1⟩ := ih1 r2
    exact ⟨m1, p1.trans p2, r1⟩
def unRef : V → Addr
  | .ref a => a
  | _ => 0
theorem perm_refs {ys : List V} {ts : List Addr} (h : ys.Perm (ts.map V.ref)) : ∃ ts' : List Addr, ts'.Perm ts ∧ ys = ts'.map V.ref := by
  have q := h.map unRef
  rw [List.map_map, show (unRef ∘ V.ref) = id from rfl, List.map_id] at q
  refine ⟨_, q, ?_⟩
  rw [List.map_map]
  have e : ∀ y ∈ ys, (V.ref ∘ unRef) y = y := fun y hy => by
    obtain ⟨t, _, rfl⟩ := List.mem_map.mp (h.mem_iff.mp hy)
    rfl
  rw [List.map_congr_left e, List.map_id'']
  exact fun _ => rfl
theorem perm_kv {ks : List Str} {g : Str → Int} {kvs : List (Key × V)} (h : kvs.Perm (kvOf ks g)) : ∃ ks', ks'.Perm ks ∧ kvs = kvOf ks' g := by
  let f : Key × V → Str := fun kv => match kv.1 with | .inr z => z | .inl _ => ⟨#[]⟩
  have q := h.map f
  have e1 : (kvOf ks g).map f = ks := by
    unfold kvOf
    rw [List.map_map]
    exact List.map_id' _
  rw [e1] at q
  refine ⟨_, q, ?_⟩
  unfold kvOf
  rw [List.map_map]
  have e : ∀ kv ∈ kvs, ((fun u => ((Sum.inr u : Key), V.int (g u))) ∘ f) kv = kv := fun kv hkv => by
    obtain ⟨t, _, rfl⟩ := List.mem_map.mp (h.mem_iff.mp hkv)
    rfl
  rw [List.map_congr_left e, List.map_id'']
  exact fun _ => rfl
theorem But.free {a : Addr} {H H' : Hp} (b : But a H H') {e : Addr} (h : H' e = none) (ha : H' a ≠ none) : H e = none := by
  cases q : H e with
  | none => rfl
  | some u =>
    by_cases ea : e = a
    · subst ea; exact absurd h ha
    · rw [b _ _ ea q] at h; cases h
theorem SpAt.ne {H : Hp} {a : Addr} {m : Nat} (h : SpAt H a m) : H a ≠ none := by
  obtain ⟨o, ho, _⟩ := h
  rw [ho]
  exact fun q => nomatch q
def spHanded : Sp := fun vs H Q _ => ∃ (a d : Addr) (zs ks : List Str) (kvs : List (Key × V)) (m : Nat), vs = [.ref a, .ref d] ∧ a ≠ d ∧ SpAt H a m ∧ m < 1000000000 ∧ H d = some (.dK kvs) ∧ Sta zs ks kvs ∧ zs.Nodup ∧ zs.length ≤ 1000 ∧
  ∀ e ks' kvs' H', H e = none → H' e = some (.dK kvs') → Sta zs ks' kvs' → (∀ z ∈ zs, placeOf kvs' z = placeOf kvs z) → e ≠ a → SpAt H' a (m + 1000) → But a H H' → Q (.ref e) H'
section
variable {P : Program} {w : World} {K : PySem.W.Frag} {mg : Str → Option Value} {base : Heap}
end
end RK

namespace RK
open PySem L2
/-! ### the law's own look whether a thing is a stand -/
theorem sorted_range {n : Nat} {l l' : List Int} (hp : l'.Perm l) (hs : l'.Pairwise (· ≤ ·)) (hb : ∀ x ∈ l, 0 ≤ x ∧ x < (n : Int)) (hl : l.length = n) : l' = (List.range n).map (fun i => ((i : Nat) : Int)) ↔ l.Nodup := by
  constructor
  · intro e
    rw [← hp.nodup_iff, e]
    refine List.Pairwise.map _ (fun a b h => ?_) (List.nodup_range (n := n))
    intro q
    exact h (by omega)
  · intro hn
    have hn' : l'.Nodup := hp.nodup_iff.mpr hn
    have hmem : ∀ x, x ∈ l' ↔ x ∈ (List.range n).map (fun i => ((i : Nat) : Int)) := fun x => by
      rw [hp.mem_iff, List.mem_map]
      constructor
      · intro hx
        have := hb x hx
        exact ⟨x.toNat, List.mem_range.mpr (by omega), by omega⟩
      · rintro ⟨i, hi, rfl⟩
        exact pigeon hn hb hl (by omega) (by have := List.mem_range.mp hi; omega)
    have hr : ((List.range n).map (fun i => ((i : Nat) : Int))).Pairwise (· ≤ ·) := List.Pairwise.map _ (fun a b (h : a < b) => by omega) List.pairwise_lt_range
    have hrn : ((List.range n).map (fun i => ((i : Nat) : Int))).Nodup := List.Pairwise.map _ (fun a b (h : a ≠ b) q => h (by omega)) (List.nodup_range (n := n))
    have hperm : l'.Perm ((List.range n).map (fun i => ((i : Nat) : Int))) := (List.perm_ext_iff_of_nodup hn' hrn).mpr hmem
    exact hperm.eq_of_pairwise (fun a b _ _ h1 h2 => Int.le_antisymm h1 h2) hs hr
def spWIsSt (K : PySem.W.Frag) : Sp := fun vs H Q _ => ∃ (n : Addr) (zs : List Str) (v : V) (k : Kd), vs = [.ref n, v] ∧ H n = some (.lst (zs.map V.str)) ∧ 0 < zs.length ∧ zs.length ≤ 60 ∧ Th K H v k ∧
  (k.isDict = false → ∀ H', Same H H' → Q (.bl false) H') ∧
  (k.isDict = true → ∃ d kvs, v = .ref d ∧ H d = some (.dK kvs) ∧ (∀ kv ∈ kvs, ∃ kx, Th K H kv.2 kx) ∧ ∀ H', Same H H' → Q (.bl (standB zs kvs)) H')
theorem dpAll_ints {K : PySem.W.Frag} {H : Hp} : ∀ ns : List Int, DpAll K H (ns.map V.int) (ns.map PyData.int)
  | [] => .nil
  | i :: r => .cons (.int i) (dpAll_ints r)
theorem eqv_ints : ∀ ns ms : List Int, PyData.eqv (.list (ns.map PyData.int)) (.list (ms.map PyData.int)) = decide (ns = ms) := by
  have key : ∀ ns ms : List Int, PyData.eqvAll (ns.map PyData.int) (ms.map PyData.int) = decide (ns = ms) := by
    intro ns
    induction ns with
    | nil => intro ms; cases ms <;> simp [PyData.eqvAll]
    | cons z r ih =>
      intro ms
      cases ms with
      | nil => simp [PyData.eqvAll]
      | cons y t =>
        rw [List.map_cons, List.map_cons, PyData.eqvAll, ih t]
        have e1 : PyData.eqv (PyData.int z) (PyData.int y) = decide (z = y) := by
          rw [PyData.eqv]
          by_cases e : z = y
          · subst e; simp
          · simp [e]
        rw [e1]
        simp
  intro ns ms
  rw [PyData.eqv]
  exact key ns ms
theorem shaped_ints (ns : List Int) : SeqAt.shaped (.list (ns.map PyData.int)) = true := by
  have k1 : ∀ l : List Int, PyData.canLayAll0 (l.map PyData.int) = true := by
    intro l
    induction l with
    | nil => rw [List.map_nil, PyData.canLayAll0]
    | cons z r ih => rw [List.map_cons, PyData.canLayAll0, ih, PyData.canLay0]; rfl
  have k2 : ∀ l : List Int, PyData.depthAll (l.map PyData.int) = 0 := by
    intro l
    induction l with
    | nil => rw [List.map_nil, PyData.depthAll]
    | cons z r ih => rw [List.map_cons, PyData.depthAll, ih, PyData.depth]; rfl
  unfold SeqAt.shaped
  rw [PyData.canLay0, k1, PyData.depth, k2]
  rfl
section
variable {P : Program} {w : World} {K : PySem.W.Frag} {mg : Str → Option Value} {base : Heap}
end
end RK

/-! a comprehension over zip of three lists of one length -/
namespace L2
open PySem PySem.Spec PyProof.Rows
def Itz3 (K : PySem.W.Frag) (a b c : Addr) : It :=
  ⟨fun i H => ∃ (xs ys us : List V), SqL K H a xs ∧ SqL K H b ys ∧ SqL K H c us ∧ i < xs.length ∧ ys.length = xs.length ∧ us.length = xs.length,
    fun i H v H' => ∃ T x y u, v = .ref T ∧ H T = none ∧ H' = upd H T (.tup [x, y, u]) ∧ (∀ xs, SqL K H a xs → xs[i]? = some x) ∧ (∀ ys, SqL K H b ys → ys[i]? = some y) ∧ ∀ us, SqL K H c us → us[i]? = some u,
    fun i H => ∃ (xs ys us : List V), SqL K H a xs ∧ SqL K H b ys ∧ SqL K H c us ∧ xs.length = i ∧ ys.length = i ∧ us.length = i⟩
theorem turn_zip3 {P : Program} {w : World} {K : PySem.W.Frag} {elts : List Expr} {kk : Nat} {tpos : Pos} {a b c z TI TO i1 i2 i3 : Addr} (D : ZipSep3 z TI TO i1 i2 i3 [i1, a] [i2, b] [i3, c]) (na : a ≠ i1) (nb : b ≠ i2) (nc : c ≠ i3) :
    Turn P w K (.Tuple elts kk tpos) (Itz3 K a b c) [z, TI, TO, i1, i2, i3] z (fun i h => IsZip h z TI TO .none ∧ IsTupOf3 h TI (.ref i1) (.ref i2) (.ref i3) ∧ (∃ a1 a2 a3, IsTupOf3 h TO a1 a2 a3) ∧ h.IsListIter i1 a i ∧ h.IsListIter i2 b i ∧ h.IsListIter i3 c i) where
  mem := by simp
  obj := fun i h st e hc => by
    obtain ⟨hz, hTI, ⟨x, y, u, hTO⟩, ⟨o1, e1, _, d1⟩, ⟨o2, e2, _, d2⟩, ⟨o3, e3, _, d3⟩⟩ := st
    rcases (show e = z ∨ e = TI ∨ e = TO ∨ e = i1 ∨ e = i2 ∨ e = i3 by simpa using hc) with q | q | q | q | q | q
    · rw [q]; exact ⟨_, hz, fun v q => nomatch q⟩
    · rw [q]; exact ⟨_, hTI, fun v q => nomatch q⟩
    · rw [q]; exact ⟨_, hTO, fun v q => nomatch q⟩
    · rw [q]; exact ⟨o1, e1, fun v q => by rw [d1] at q; cases q⟩
    · rw [q]; exact ⟨o2, e2, fun v q => by rw [d2] at q; cases q⟩
    · rw [q]; exact ⟨o3, e3, fun v q => by rw [d3] at q; cases q⟩
  keep := fun i h h' st k => by
    obtain ⟨hz, hTI, ⟨x, y, u, hTO⟩, h1, h2, h3⟩ := st
    exact ⟨k z (by simp) _ hz, k TI (by simp) _ hTI, ⟨x, y, u, k TO (by simp) _ hTO⟩, h1.at fun o q => k i1 (by simp) o q, h2.at fun o q => k i2 (by simp) o q, h3.at fun o q => k i3 (by simp) o q⟩
  item := by
    intro X hP hw hK hc i pins s σ H E I hf st hg
    subst hP hw hK
    obtain ⟨hz, hTI, hTO, h1, h2, h3⟩ := st
    obtain ⟨xs, ys, us, qx, qy, qu, hi, ly, lu⟩ := hg
    obtain ⟨t1, rv1, p1, _⟩ := I.list qx
    obtain ⟨t2, rv2, p2, _⟩ := I.list qy
    obtain ⟨t3, rv3, p3, _⟩ := I.list qu
    have l1 := rv1.length
    have l2 := rv2.length
    have l3 := rv3.length
    have G := GoesN.zip3 (prog := X.prog) (w := X.w) (A := X.A) (elts := elts) (x1 := kk) (pos := tpos) D (Draws.list (A := X.A.in1) (I.ok.hd hc) i1 a na t1.toArray) (Draws.list (A := X.A.in1) (I.ok.hd hc) i2 b nb t2.toArray) (Draws.list (A := X.A.in1) (I.ok.hd hc) i3 c nc t3.toArray)
    refine G.goes i s _ E ?_ ⟨hz, hTI, hTO, ⟨h1, p1.isList⟩, ⟨h2, p2.isList⟩, ⟨h3, p3.isList⟩⟩ fun v h' tk hY hst hkeep htk => ?_
    · simp only [List.size_toArray]
      omega
    obtain ⟨T, x', y', u', rfl, hT, hx, hy, hu, o, hTo, hTc, nT, hTd⟩ := hY
    obtain ⟨hz', hTI', hTO', ⟨h1', _⟩, ⟨h2', _⟩, ⟨h3', _⟩⟩ := hst
    obtain ⟨x, ex, rx⟩ : ∃ x, xs[i]? = some x ∧ RelV x x' := by
      obtain ⟨w, hw, rw_⟩ := rv1.get (List.getElem?_eq_getElem hi)
      have : t1[i]? = some x' := by simpa using hx
      rw [this] at hw
      cases hw
      exact ⟨_, List.getElem?_eq_getElem hi, rw_⟩
    obtain ⟨y, ey, ry⟩ : ∃ y, ys[i]? = some y ∧ RelV y y' := by
      have hi2 : i < ys.length := by omega
      obtain ⟨w, hw, rw_⟩ := rv2.get (List.getElem?_eq_getElem hi2)
      have : t2[i]? = some y' := by simpa using hy
      rw [this] at hw
      cases hw
      exact ⟨_, List.getElem?_eq_getElem hi2, rw_⟩
    obtain ⟨u, eu, ru⟩ : ∃ u, us[i]? = some u ∧ RelV u u' := by
      have hi3 : i < us.length := by omega
      obtain ⟨w, hw, rw_⟩ := rv3.get (List.getElem?_eq_getElem hi3)
      have : t3[i]? = some u' := by simpa using hu
      rw [this] at hw
      cases hw
      exact ⟨_, List.getElem?_eq_getElem hi3, rw_⟩
    have new : ObjOk X.prog X.w (upd H T (.tup [x, y, u])) h' T (.tup [x, y, u]) := ⟨by show 3 ≤ sizeLine; decide, [x', y', u'], .cons rx (.cons ry (.cons ru .nil)), ⟨o, hTo, hTc, nT, hTd⟩⟩
    have I1 : Inv X pins σ (upd H T (.tup [x, y, u])) { s with heap := h', toks := tk } :=
      I.turnedNew (ch := [z, TI, TO, i1, i2, i3]) (fun e ob hb q => hkeep e ob (fun m => hb (by
        simp only [List.mem_cons, List.not_mem_nil, or_false] at m ⊢
        rcases m with m | m | m | m | m <;> simp [m])) q) hf hT new
    refine ⟨.ref T, _, I1, rfl, ⟨_, x, y, u, rfl, I.hok.fresh hT, rfl, fun l q => by rw [I.list_inj q qx]; exact ex, fun l q => by rw [I.list_inj q qy]; exact ey, fun l q => by rw [I.list_inj q qu]; exact eu⟩, ⟨hz', hTI', hTO', h1', h2', h3'⟩, fun e hb => ?_⟩
    have hb' : e < s.heap.objs.size := by
      obtain ⟨_, _, _, hTO⟩ := hTO
      rcases (show e = z ∨ e = TI ∨ e = TO ∨ e = i1 ∨ e = i2 ∨ e = i3 by simpa using hb) with q | q | q | q | q | q
      · rw [q]; exact Heap.lt_size hz
      · rw [q]; exact Heap.lt_size hTI
      · rw [q]; exact Heap.lt_size hTO
      · rw [q]; obtain ⟨_, q, _⟩ := h1; exact Heap.lt_size q
      · rw [q]; obtain ⟨_, q, _⟩ := h2; exact Heap.lt_size q
      · rw [q]; obtain ⟨_, q, _⟩ := h3; exact Heap.lt_size q
    rw [upd_ne (Nat.ne_of_lt (Nat.lt_of_lt_of_le hb' hT))]
    exact (hf e hb).1
  done := by
    intro X hP hw hK hc i pins s σ H E I hf st hg
    subst hP hw hK
    obtain ⟨hz, hTI, hTO, h1, h2, h3⟩ := st
    obtain ⟨xs, ys, us, qx, qy, qu, lx, ly, lu⟩ := hg
    obtain ⟨t1, rv1, p1, _⟩ := I.list qx
    obtain ⟨t2, rv2, p2, _⟩ := I.list qy
    obtain ⟨t3, rv3, p3, _⟩ := I.list qu
    have l1 := rv1.length
    have l2 := rv2.length
    have l3 := rv3.length
    have G := GoesN.zip3 (prog := X.prog) (w := X.w) (A := X.A) (elts := elts) (x1 := kk) (pos := tpos) D (Draws.list (A := X.A.in1) (I.ok.hd hc) i1 a na t1.toArray) (Draws.list (A := X.A.in1) (I.ok.hd hc) i2 b nb t2.toArray) (Draws.list (A := X.A.in1) (I.ok.hd hc) i3 c nc t3.toArray)
    have hn : i = min (min t1.toArray.size t2.toArray.size) t3.toArray.size := by
      simp only [List.size_toArray]
      omega
    rw [hn] at h1 h2 h3
    exact wpAny_mono (G.stops s (fun s1 => Inv X pins σ H s1) E ⟨hz, hTI, hTO, ⟨h1, p1.isList⟩, ⟨h2, p2.isList⟩, ⟨h3, p3.isList⟩⟩ fun h' tk hk htk => I.turnedL (ch := [z, TI, TO, i1, i2, i3]) (fun e o hb q => hk e o (fun m => hb (by
        simp only [List.mem_cons, List.not_mem_nil, or_false] at m ⊢
        rcases m with m | m | m | m | m <;> simp [m])) q) hf) (fun r s1 z => z) fun _ _ z => z
  self := fun A i s Q E st h => wpAny_pyIter_zip st.1 h
def iZip3 (K : PySem.W.Frag) (ta : TA) : TI := fun σ H R => ta σ H fun vs H1 => ∃ a b c xs ys us, vs = [.ref a, .ref b, .ref c] ∧ SqL K H1 a xs ∧ SqL K H1 b ys ∧ SqL K H1 c us ∧ R (Itz3 K a b c) H1
theorem pi_zip3 {X : Cx} {e e2 e3 : Expr} {ta : TA} {p pos tpos : Pos} {elts : List Expr} {kk : Nat} (hg : Gl X "zip") (hm : X.mg "zip" = none) (ha : PA X [e, e2, e3] ta)
    (hs : starEach [e, e2, e3] X.env = (false, eval e X.env) :: starEach [e2, e3] X.env := by rfl) (hpl : (backTo pos (starEach [e2, e3] X.env)).any (·.1) = false := by rfl) :
    PI X (.Tuple elts kk tpos) (.Call (.Name "zip" p) [e, e2, e3] [] pos) (iZip3 X.K ta) := by
  refine ⟨fun pins s σ H R I h => ?_⟩
  refine Call_ (ld_blt I hg hm PyProof.Rows.boot_zip (PyProof.Rows.callWith_type1 (thn (ha.run pos pins s σ H _ I h) fun us s1 ⟨vs, H1, I1, r1, q1⟩ => ?_) hs hpl))
  obtain ⟨a, b, c, xs, ys, us, rfl, qx, qy, qu, q⟩ := q1
  cases r1 with
  | cons r rr =>
    cases rr with
    | cons r' rr =>
      cases rr with
      | cons r'' rr =>
        cases rr
        cases r
        cases r'
        cases r''
        obtain ⟨t1, rv1, p1, _⟩ := I1.list qx
        obtain ⟨t2, rv2, p2, _⟩ := I1.list qy
        obtain ⟨t3, rv3, p3, _⟩ := I1.list qu
        have la := p1.lt
        have lb := p2.lt
        have lc := p3.lt
        refine zip_begins3 (begins_list a t1.toArray) (begins_list b t2.toArray) (begins_list c t3.toArray) p1.isList p2.isList p3.isList fun h' hz hTI hTO h1 h2 h3 hsz hk => wpAny_pyIter_zip hz ?_
        refine ⟨s1.heap.objs.size + 5, [s1.heap.objs.size + 5, s1.heap.objs.size + 3, s1.heap.objs.size + 4, s1.heap.objs.size, s1.heap.objs.size + 1, s1.heap.objs.size + 2], _, _, H1, rfl, I1.kept (t' := s1.toks) hk,
          turn_zip3 (zip_sep3 (N := s1.heap.objs.size) (fp1 := [a]) (fp2 := [b]) (fp3 := [c]) (fun d hd => by rw [List.mem_singleton.mp hd]; exact la) (fun d hd => by rw [List.mem_singleton.mp hd]; exact lb) (fun d hd => by rw [List.mem_singleton.mp hd]; exact lc))
            (Nat.ne_of_lt la) (Nat.ne_of_lt (Nat.lt_succ_of_lt lb)) (Nat.ne_of_lt (Nat.lt_succ_of_lt (Nat.lt_succ_of_lt lc))), ⟨hz, hTI, ⟨_, _, _, hTO⟩, ⟨_, h1, rfl, rfl⟩, ⟨_, h2, rfl, rfl⟩, ⟨_, h3, rfl, rfl⟩⟩, fun e he => ?_, q⟩
        have hle : s1.heap.objs.size ≤ e := by
          rcases (show e = s1.heap.objs.size + 5 ∨ e = s1.heap.objs.size + 3 ∨ e = s1.heap.objs.size + 4 ∨ e = s1.heap.objs.size ∨ e = s1.heap.objs.size + 1 ∨ e = s1.heap.objs.size + 2 by simpa using he) with z | z | z | z | z | z <;> rw [z]
          · exact Nat.le_add_right _ _
          · exact Nat.le_add_right _ _
          · exact Nat.le_add_right _ _
          · exact Nat.le_refl _
          · exact Nat.le_add_right _ _
          · exact Nat.le_add_right _ _
        exact I1.fpOk hle (I1.hok.fresh hle)
def YTri (xs ys us : Nat → Option V) : Nat → Hp → V → Hp → Prop := fun i H v H' => ∃ T x y u, v = .ref T ∧ H T = none ∧ H' = upd H T (.tup [x, y, u]) ∧ xs i = some x ∧ ys i = some y ∧ us i = some u
theorem walk_zip3 {K : PySem.W.Frag} {a b c : Addr} {xs ys us : List V} (hy : ys.length = xs.length) (hu : us.length = xs.length) : Walk (Itz3 K a b c) xs.length (fun H => SqL K H a xs ∧ SqL K H b ys ∧ SqL K H c us) (YTri (fun i => xs[i]?) (fun i => ys[i]?) (fun i => us[i]?)) := by
  refine ⟨fun i _ hi q => ⟨xs, ys, us, q.1, q.2.1, q.2.2, hi, hy, hu⟩, fun _ q => ⟨xs, ys, us, q.1, q.2.1, q.2.2, rfl, hy, hu⟩, fun i H v H' _ q y => ?_⟩
  obtain ⟨T, x, z, u, h1, h2, h3, h4, h5, h6⟩ := y
  exact ⟨T, x, z, u, h1, h2, h3, h4 xs q.1, h5 ys q.2.1, h6 us q.2.2⟩
end L2

namespace RK
open PySem L2
/-! ### drawn stands -/
theorem perm_ints {ys : List V} {l : List Int} (h : ys.Perm (l.map V.int)) : ∃ rs : List Int, rs.Perm l ∧ ys = rs.map V.int := by
  have un : ∀ x ∈ ys, ∃ i, x = V.int i := fun x hx => by
    obtain ⟨i, _, e⟩ := List.mem_map.mp (h.mem_iff.mp hx)
    exact ⟨i, e.symm⟩
  let f : V → Int := fun v => match v with | .int i => i | _ => 0
  refine ⟨ys.map f, ?_, ?_⟩
  · have := h.map f
    rwa [List.map_map, show (f ∘ V.int) = id from rfl, List.map_id] at this
  · rw [List.map_map]
    refine (List.map_id ys).symm.trans (List.map_congr_left fun x hx => ?_)
    obtain ⟨i, rfl⟩ := un x hx
    rfl
theorem getD_range {l : List Int} {n : Nat} (h : l.length = n) : (List.range n).map (fun i => l.getD i 0) = l := by
  refine List.ext_getElem (by rw [List.length_map, List.length_range, h]) fun i h1 h2 => ?_
  rw [List.getElem_map, List.getElem_range, List.getD_eq_getElem?_getD, List.getElem?_eq_getElem h2]
  rfl
theorem idx_map {zs : List Str} (nd : zs.Nodup) (f : Nat → Int) : zs.map (fun z => f (zs.idxOf z)) = (List.range zs.length).map f := by
  refine List.ext_getElem (by rw [List.length_map, List.length_map, List.length_range]) fun i h1 h2 => ?_
  rw [List.getElem_map, List.getElem_map, List.getElem_range]
  rw [List.length_map] at h1
  rw [nd.idxOf_getElem i h1]
theorem sum_lin (f h : Nat → Int) (c : Int) : ∀ l : List Nat, (l.map fun i => f i + c * h i).sum = (l.map f).sum + c * (l.map h).sum
  | [] => by simp
  | x :: r => by
    rw [List.map_cons, List.map_cons, List.map_cons, List.sum_cons, List.sum_cons, List.sum_cons, sum_lin f h c r, Int.mul_add]
    omega
theorem perm_sum {l m : List Int} (h : l.Perm m) : l.sum = m.sum := by
  induction h with
  | nil => rfl
  | cons x _ ih => rw [List.sum_cons, List.sum_cons, ih]
  | swap x y l => rw [List.sum_cons, List.sum_cons, List.sum_cons, List.sum_cons]; omega
  | trans _ _ h1 h2 => exact h1.trans h2
def lapG (zs : List Str) (rs ls : List Int) (z : Str) : Int := rs.getD (zs.idxOf z) 0 + (zs.length : Int) * ls.getD (zs.idxOf z) 0
theorem lap_sta {zs : List Str} {rs ls : List Int} (nd : zs.Nodup) (h2 : 2 ≤ zs.length) (hr : rs.Perm ((List.range zs.length).map fun i => ((i : Nat) : Int))) (hl : ls.length = zs.length) (h0 : ls.sum = 0) : Sta zs zs (kvOf zs (lapG zs rs ls)) := by
  have lr : rs.length = zs.length := by rw [hr.length_eq, List.length_map, List.length_range]
  refine Sta.mk' (List.Perm.refl _) ?_ ?_
  · have e : zs.map (lapG zs rs ls) = _ := idx_map nd (fun i => rs.getD i 0 + (zs.length : Int) * ls.getD i 0)
    rw [e, sum_lin (fun i => rs.getD i 0) (fun i => ls.getD i 0), getD_range lr, getD_range hl, h0, Int.mul_zero, Int.add_zero, ← half_sum]
    exact perm_sum hr
  · have e : (zs.map fun u => lapG zs rs ls u % (zs.length : Int)) = (List.range zs.length).map fun i => (rs.getD i 0 + (zs.length : Int) * ls.getD i 0) % (zs.length : Int) := idx_map nd (fun i => (rs.getD i 0 + (zs.length : Int) * ls.getD i 0) % (zs.length : Int))
    rw [e]
    have e2 : ((List.range zs.length).map fun i => (rs.getD i 0 + (zs.length : Int) * ls.getD i 0) % (zs.length : Int)) = rs := by
      refine Eq.trans (List.map_congr_left fun i hi => ?_) (getD_range lr)
      have hi' := List.mem_range.mp hi
      have hm : rs.getD i 0 ∈ rs := by
        rw [List.getD_eq_getElem?_getD, List.getElem?_eq_getElem (by omega)]
        exact List.getElem_mem _
      obtain ⟨j, hj, ej⟩ := List.mem_map.mp (hr.mem_iff.mp hm)
      have hj' := List.mem_range.mp hj
      rw [Int.add_mul_emod_self_left]
      exact Int.emod_eq_of_lt (by omega) (by omega)
    rw [e2]
    refine (hr.nodup_iff).mpr ?_
    refine List.Pairwise.map _ (fun a b h => ?_) List.nodup_range
    intro q
    exact h (by omega)
theorem sum_le {N : Nat} : ∀ {ls : List Int}, (∀ x ∈ ls, x.natAbs ≤ N) → ls.sum.natAbs ≤ ls.length * N
  | [], _ => by simp
  | x :: r, h => by
    have ih := sum_le (ls := r) fun y hy => h y (List.mem_cons_of_mem _ hy)
    have := h x List.mem_cons_self
    rw [List.sum_cons, List.length_cons, Nat.add_mul]
    omega
theorem laps_le {N : Nat} {ls : List Int} (h : ∀ x ∈ ls, x.natAbs ≤ N) (hl : ls.length ≤ 100) : ∀ x ∈ ls ++ [0 - ls.sum], x.natAbs ≤ 100 * N := fun x hx => by
  rcases List.mem_append.mp hx with q | q
  · have := h x q
    omega
  · rw [List.mem_singleton.mp q]
    have h1 := sum_le h
    have h2 := Nat.mul_le_mul_right N hl
    omega
theorem lap_le {zs : List Str} {rs ls : List Int} {N : Nat} (hr : rs.Perm ((List.range zs.length).map fun i => ((i : Nat) : Int))) (hl : zs.length ≤ 100) (h : ∀ x ∈ ls, x.natAbs ≤ 100 * N) (hN : N < 10000000000000000) (z : Str) : (lapG zs rs ls z).natAbs < 2 ^ 100 := by
  have h1 : (rs.getD (zs.idxOf z) 0).natAbs ≤ 100 := by
    rw [List.getD_eq_getElem?_getD]
    cases e : rs[zs.idxOf z]? with
    | none => simp
    | some x =>
      have hm := hr.mem_iff.mp (List.mem_of_getElem? e)
      obtain ⟨i, hi, rfl⟩ := List.mem_map.mp hm
      have := List.mem_range.mp hi
      show ((i : Nat) : Int).natAbs ≤ 100
      omega
  have h2 : (ls.getD (zs.idxOf z) 0).natAbs ≤ 100 * N := by
    rw [List.getD_eq_getElem?_getD]
    cases e : ls[zs.idxOf z]? with
    | none => simp
    | some x => exact h x (List.mem_of_getElem? e)
  have h3 : ((zs.length : Int) * ls.getD (zs.idxOf z) 0).natAbs ≤ 100 * (100 * N) := by
    rw [Int.natAbs_mul, Int.natAbs_natCast]
    exact Nat.mul_le_mul hl h2
  unfold lapG
  have h4 : (2 : Nat) ^ 100 = 1267650600228229401496703205376 := by decide
  rw [h4]
  omega
def spWStand : Sp := fun vs H Q _ => ∃ (a n : Addr) (zs : List Str) (N m : Nat), vs = [.ref a, .ref n, .int (N : Nat)] ∧ a ≠ n ∧ SpAt H a m ∧ m < 1000000000 ∧ H n = some (.lst (zs.map V.str)) ∧ zs.Nodup ∧ 2 ≤ zs.length ∧ zs.length ≤ 100 ∧ N < 10000000000000000 ∧
  ∀ e kvs H', H' e = some (.dK kvs) → Sta zs zs kvs → (∀ z ∈ zs, (placeOf kvs z).natAbs < 2 ^ 100) → e ≠ a → SpAt H' a (m + 1000) → But a H H' → Q (.ref e) H'
section
variable {P : Program} {w : World} {K : PySem.W.Frag} {mg : Str → Option Value} {base : Heap}
end
end RK

namespace RK
open PySem L2
/-! ### things that are no stands -/
/-- a value of one of these dicts -/
inductive Val1 (H : Hp) : V → Prop where
  | non : Val1 H .non
  | int (i : Int) : Val1 H (.int i)
  | bl (b : Bool) : Val1 H (.bl b)
  | str {z : Str} (h : z.length ≤ 1000) : Val1 H (.str z)
  | lst {a : Addr} {i : Int} (e : H a = some (.lst [.int i])) : Val1 H (.ref a)
  | tup {a : Addr} {i : Int} (e : H a = some (.tup [.int i])) : Val1 H (.ref a)
theorem Val1.mono {H H' : Hp} {v : V} (h : Val1 H v) (s : ∀ b o, (∀ kvs, o ≠ .dK kvs) → H b = some o → H' b = some o) : Val1 H' v := by
  cases h with
  | non => exact .non
  | int i => exact .int i
  | bl b => exact .bl b
  | str h => exact .str h
  | lst e => exact .lst (s _ _ (fun _ z => nomatch z) e)
  | tup e => exact .tup (s _ _ (fun _ z => nomatch z) e)
theorem Val1.th {K : PySem.W.Frag} {H : Hp} {v : V} (h : Val1 H v) : ∃ k, Th K H v k := by
  cases h with
  | non => exact ⟨_, .non⟩
  | int i => exact ⟨_, .int i⟩
  | bl b => exact ⟨_, .bl b⟩
  | str h => exact ⟨_, .str h⟩
  | lst e => exact ⟨_, .lst e⟩
  | tup e => exact ⟨_, .tup e⟩
theorem Val1.same {H : Hp} {v : V} (h : Val1 H v) : SameD H 1 v v := by
  have one : ∀ {i : Int} (j : Nat) (x y : V), [V.int i][j]? = some x → [V.int i][j]? = some y → SameD H 0 x y := fun {i} j x y e1 e2 => by
    match j, e1, e2 with
    | 0, e1, e2 => cases e1; cases e2; exact .int i
  cases h with
  | non => exact .non
  | int i => exact .int i
  | bl b => exact .bl b
  | str h => exact .str h
  | lst e => exact .lst e e rfl (by show 1 ≤ 1000; decide) one
  | tup e => exact .tup e e rfl (by show 1 ≤ 1000; decide) one
/-- a plain thing, or a new dict of texts -/
def OddP (K : PySem.W.Frag) (H0 H : Hp) (b : Nat) (v : V) : Prop :=
  (∃ k, Th K H v k ∧ k.isDict = false ∧ SameD H 2 v v) ∨ ∃ d kvs, v = .ref d ∧ H0 d = none ∧ H d = some (.dK kvs) ∧ kvs.length ≤ b ∧ ∀ kv ∈ kvs, keyOk kv.1 ∧ Val1 H kv.2
theorem OddP.mono {K : PySem.W.Frag} {H0 H H' : Hp} {b : Nat} {v : V} (h : OddP K H0 H b v) (s : Same H H') : OddP K H0 H' b v := by
  rcases h with ⟨k, h1, h2, h3⟩ | ⟨d, kvs, e, h1, h2, h3, h4⟩
  · exact .inl ⟨k, h1.same s, h2, h3.mono s⟩
  · exact .inr ⟨d, kvs, e, h1, s _ _ h2, h3, fun kv hkv => ⟨(h4 kv hkv).1, (h4 kv hkv).2.mono fun b o _ e => s _ _ e⟩⟩
theorem put_all {Pk : Key → Prop} {Pv : V → Prop} {kvs : List (Key × V)} {k : Key} {v : V} (h : ∀ kv ∈ kvs, Pk kv.1 ∧ Pv kv.2) (hk : Pk k) (hv : Pv v) : (∀ kv ∈ putK kvs k v, Pk kv.1 ∧ Pv kv.2) ∧ (putK kvs k v).length ≤ kvs.length + 1 := by
  unfold putK
  split
  · refine ⟨fun kv hkv => ?_, by rw [List.length_map]; omega⟩
    obtain ⟨kv', hm, rfl⟩ := List.mem_map.mp hkv
    split
    · exact ⟨(h kv' hm).1, hv⟩
    · exact h kv' hm
  · refine ⟨fun kv hkv => ?_, by rw [List.length_append]; exact Nat.le_refl _⟩
    rcases List.mem_append.mp hkv with hm | hm
    · exact h kv hm
    · rw [List.mem_singleton.mp hm]; exact ⟨hk, hv⟩
theorem merge_all {Pk : Key → Prop} {Pv : V → Prop} : ∀ {more kvs : List (Key × V)}, (∀ kv ∈ kvs, Pk kv.1 ∧ Pv kv.2) → (∀ kv ∈ more, Pk kv.1 ∧ Pv kv.2) → (∀ kv ∈ mergeK kvs more, Pk kv.1 ∧ Pv kv.2) ∧ (mergeK kvs more).length ≤ kvs.length + more.length
  | [], kvs, h, _ => ⟨h, Nat.le_refl _⟩
  | x :: r, kvs, h, hm => by
    have p := put_all h (hm x List.mem_cons_self).1 (hm x List.mem_cons_self).2
    have q := merge_all (more := r) p.1 fun kv hkv => hm kv (List.mem_cons_of_mem _ hkv)
    exact ⟨q.1, Nat.le_trans q.2 (by rw [List.length_cons]; omega)⟩
theorem odd_dict {K : PySem.W.Frag} {H0 H : Hp} {b : Nat} {d : Addr} {kvs : List (Key × V)} (h0 : H0 d = none) (hd : H d = some (.dK (mergeK [] kvs))) (hl : kvs.length ≤ b) (h : ∀ kv ∈ kvs, keyOk kv.1 ∧ Val1 H kv.2) : OddP K H0 H b (.ref d) := by
  have q := merge_all (Pk := keyOk) (Pv := Val1 H) (kvs := []) (fun _ z => nomatch z) h
  exact .inr ⟨d, _, rfl, h0, hd, Nat.le_trans q.2 (by rw [List.length_nil]; omega), q.1⟩
/-- a list of pairs that stand for keys and values -/
def LP (H : Hp) (C : Addr) (ts : List Addr) (kvs : List (Key × V)) : Prop := H C = some (.lst (ts.map V.ref)) ∧ Paired (fun (t : Addr) (kv : Key × V) => H t = some (.tup [kV kv.1, kv.2])) ts kvs
theorem LP.mono {H H' : Hp} {C : Addr} {ts : List Addr} {kvs : List (Key × V)} (h : LP H C ts kvs) (s : Same H H') : LP H' C ts kvs := ⟨s _ _ h.1, Paired.mono (fun _ _ e => s _ _ e) h.2⟩
theorem paired_app {α β : Type} {F : α → β → Prop} : ∀ {l₁ m₁ : List α} {l₂ m₂ : List β}, Paired F l₁ l₂ → Paired F m₁ m₂ → Paired F (l₁ ++ m₁) (l₂ ++ m₂)
  | _, _, _, _, .nil, h => h
  | _, _, _, _, .cons r t, h => .cons r (paired_app t h)
/-- the heap without one address -/
def no (H : Hp) (l : Addr) : Hp := fun b => if b = l then none else H b
theorem no_ne {H : Hp} {l b : Addr} (h : b ≠ l) : no H l b = H b := if_neg h
theorem no_same {H : Hp} {l : Addr} : Same (no H l) H := fun b o e => by
  by_cases h : b = l
  · rw [h] at e
    exact absurd ((if_pos rfl : no H l l = none).symm.trans e) (fun z => nomatch z)
  · rw [no_ne h] at e; exact e
theorem no_but {H H' : Hp} {l : Addr} (b : But l H H') : Same (no H l) (no H' l) := fun c o e => by
  by_cases h : c = l
  · rw [h] at e
    exact absurd ((if_pos rfl : no H l l = none).symm.trans e) (fun z => nomatch z)
  · rw [no_ne h] at e ⊢; exact b _ _ h e
/-- one more thing in the list at l -/
theorem one_more {K : PySem.W.Frag} {H0 G G' : Hp} {l : Addr} {vs : List V} {v : V} {b : Nat} (h : ∀ u ∈ vs, OddP K H0 (no G l) b u) (hb : But l G G') (hv : OddP K H0 (no G' l) b v) :
    ∀ u ∈ vs ++ [v], OddP K H0 (no (upd G' l (.lst (vs ++ [v]))) l) b u := fun u hu => by
  have e : Same (no G' l) (no (upd G' l (.lst (vs ++ [v]))) l) := no_but But.upd
  rcases List.mem_append.mp hu with m | m
  · exact ((h u m).mono (no_but hb)).mono e
  · rw [List.mem_singleton.mp m]; exact hv.mono e
theorem new_dict {K : PySem.W.Frag} {H0 G : Hp} {l d : Addr} {kvs : List (Key × V)} {b : Nat} (h0 : H0 d = none) (hd : G d = none) (hl : G l ≠ none) (hb : kvs.length ≤ b) (h : ∀ kv ∈ kvs, keyOk kv.1 ∧ Val1 (no G l) kv.2) :
    OddP K H0 (no (upd G d (.dK (mergeK [] kvs))) l) b (.ref d) := by
  have hdl : d ≠ l := fun z => hl (by rw [← z]; exact hd)
  refine odd_dict h0 (by rw [no_ne hdl, upd_same]) hb fun kv hkv => ⟨(h kv hkv).1, (h kv hkv).2.mono fun c o _ e => no_but (Same.but (same_upd hd)) c o e⟩
section
variable {P : Program} {w : World} {K : PySem.W.Frag} {mg : Str → Option Value} {base : Heap}
end
end RK

/-! promises of defs that ask repr of containers: nothing is being shown when they are called -/
namespace L2
open PySem PySem.Spec PyProof.Rows
/-- as FnOk, of calls from where no repr runs -/
structure FnG (P : Program) (w : World) (K : PySem.W.Frag) (mg : Str → Option Value) (base : Heap) (CX : CXT) (k : Nat) (f : Addr) (fd : FuncData) (ps : List Str) (sp : Sp) : Prop where
  len : ∀ vs H Q E, sp vs H Q E → vs.length = ps.length
  run : ∀ (A : Around) (outer : List Env) (u : Shared) (H : Hp) (args : Args) (us : List Value) (vs : List V) (Q : VK) (E : XK), Room k A → A.guards = some [] → Env0 P w K mg base A outer u H → BindsTo u fd args (ps.zip us) → Vals vs us → sp vs H Q E →
    codeAny (model P w) A (.call (.ref f) args) (CR CX outer P w H u Q E) u
section
variable {P : Program} {w : World} {K : PySem.W.Frag} {mg : Str → Option Value} {base : Heap} {CX : CXT} {k : Nat} {f : Addr} {fd : FuncData} {ps : List Str} {sp : Sp}
theorem FnOk.toG (F : FnOk P w K mg base CX k f fd ps sp) : FnG P w K mg base CX k f fd ps sp := ⟨F.len, fun A outer u H args us vs Q E hr _ => F.run A outer u H args us vs Q E hr⟩
theorem guards_deeper {A : Around} {env : Env} (h : A.guards = some []) : (A.deeper env).guards = some [] := h
theorem fn_g {name qual : Str} {params : Arguments} {body : List Stmt} {scope : Scope} {dV kV doc pm cdv ct oc : Value} {an od : Option Addr} {osl : Array (Option Value)} {N : List Str}
    (lk : K.lookup f = some ⟨oc, od, .func (PySem.W.fnOf name qual params body scope dV kV doc pm an cdv ct), osl⟩) (hcd : PySem.W.codeIn K cdv qual = true) (S : FnScope N ps scope) (len : ∀ vs H Q E, sp vs H Q E → vs.length = ps.length)
    (reads : ∀ (A : Around) (outer : List Env) (u : Shared) (H : Hp) (vs : List V) (Q : VK) (E : XK), Room k (A.deeper (envOfC qual scope u.heap.objs.size f cdv)) → (A.deeper (envOfC qual scope u.heap.objs.size f cdv)).guards = some [] → sp vs H Q E →
      ∃ t, PSs (cxOf CX P w K mg base N qual scope f cdv A outer u H E) body t ∧ t { nx := fun _ H' => Q .non H', rt := Q } (start N vs) H) :
    FnG P w K mg base CX (k + 1) f (PySem.W.fnOf name qual params body scope dV kV doc pm an cdv ct) ps sp := by
  refine ⟨len, fun A outer u H args us vs Q E room quiet e0 binds rel promise => ?_⟩
  have count := len _ _ _ _ promise
  have kept : K.In u.heap := e0.mod.kin.keeps fun b o e => (e0.bs b o e).1
  have nolim : u.heap.NoLimit := e0.mod.nolimit.keeps fun b o e => (e0.bs b o e).1
  have places : ∀ y ∈ ps.zip us, scope.names.lookup y.1 = some .local ∨ (scope.names.lookup y.1 = some .cell ∧ ((cellsFrom (u.heap.objs.size + 1) scope.names []).lookup y.1).isSome = true) := fun ⟨n, v⟩ hy => (S.par n (List.of_mem_zip hy).1).imp id fun q => ⟨q, PySem.W.cellsFrom_some _ _ _ (.inl q)⟩
  refine codeAny_call_function room.depth (kept _ _ lk) rfl S.co S.gen rfl (PySem.W.codeRec_of kept hcd) (binds _ _ _ _ (wpAny_newFunctionEnv_cells S.kind places fun env he u1 x => ?_))
  subst he
  obtain ⟨t, ht, hq⟩ := reads A outer u H vs Q E (room.deeper _) (guards_deeper quiet) promise
  refine ⟨nolim.keeps x.toInCall.keep, codeAny_func (wpAny_mono (ht.run [] u1 (start N vs) H _ (inv_start S room.hd e0 count rel x) hq) (fun fl u' hs => ?_) fun _ _ hs => hs)⟩
  have told : ∀ {ρ : St} {H' : Hp} {v : V} {z : Value}, Inv (cxOf CX P w K mg base N qual scope f cdv A outer u H E) [] ρ H' u' → RelV v z → Q v H' → CE outer P w H u Q z u' := fun {ρ H' v z} J rv q => ⟨v, H', J.os, J.bare, J.base, J.hok, rv, q⟩
  match fl, hs with
  | .ret z, ⟨v, ρ, H', J, rv, q⟩ => exact told J rv q
  | .next, ⟨ρ, H', J, q⟩ => exact told (v := V.non) (z := Value.none) J rfl q
  | .brk, ⟨_, _, _, q⟩ => exact False.elim q
  | .cont, ⟨_, _, _, q⟩ => exact False.elim q
end
section
variable {X : Cx} {CX : CXT} {k : Nat} {f : Addr} {fd : FuncData} {ps : List Str} {sp : Sp} {dvs : List V} {ds : List Value} {E : XK} {x : Str} {p pos : Pos} {e : Expr} {es : List Expr} {t : TA}
theorem run_g {pins : List (Addr × Obj)} {σ : St} {H : Hp} {s : Shared} {Q : VK} {us : List Value} {vs : List V} (F : FnG X.prog X.w X.K X.mg X.base CX k f fd ps sp) (room : Room k X.A) (quiet : X.A.guards = some []) (hb : Binds X.K fd ps ds) (hd : Vals dvs ds) (hx : Passes CX X E)
    (I : Inv X pins σ H s) (r : Vals vs us) (h : sp (vs ++ dvs) H Q E) : wpAny (model X.prog X.w) X.A (call (.ref f) us) (EP X pins σ Q) X.xe s := by
  have r2 := r.append hd
  have count : (us ++ ds).length = ps.length := r2.length ▸ F.len _ _ _ _ h
  refine wpAny_call (codeAny_mono (F.run X.A X.stack s H ⟨us, []⟩ (us ++ ds) (vs ++ dvs) Q E room quiet I.env0 (hb s us I.kIn count) r2 h) fun r s' hq => ?_)
  match r, hq with
  | .error e, hq => exact hx pins σ H s e s' I hq
  | .ok (.ret u), hq => exact I.after hq
  | .ok .next, hq => exact False.elim hq
  | .ok .brk, hq => exact False.elim hq
  | .ok .cont, hq => exact False.elim hq
theorem pe_callG (F : FnG X.prog X.w X.K X.mg X.base CX k f fd ps sp) (room : Room k X.A) (quiet : X.A.guards = some []) (hg : Gl X x) (hm : X.mg x = some (.ref f)) (hk : PySem.W.keepIn X.K (.ref f) = true) (hb : Binds X.K fd ps ds) (hd : Vals dvs ds) (hx : Passes CX X E) (ha : PA X (e :: es) t)
    (hdb : (x == ("__debug__" : Str)) = false := by decide) (he : starEach (e :: es) X.env = (false, eval e X.env) :: starEach es X.env := by rfl) (hpl : (backTo pos (starEach es X.env)).any (·.1) = false := by rfl) :
    PE X (.Call (.Name x p) (e :: es) [] pos) (tCall sp dvs E t) :=
  ⟨fun pins s σ H Q I h => wpAny_Call_Name_kw (ld_glob I hg hm (PySem.W.callWith_K (h₀ := X.base) I.ok.mod.kin hk (thn (ha.run pos pins s σ H _ I h) fun us s1 ⟨vs, H1, I1, r, q⟩ => ⟨I1.kIn, run_g F room quiet hb hd hx I1 r q⟩) he hpl) hdb)⟩
end
section
variable {P : Program} {w : World} {K : PySem.W.Frag} {mg : Str → Option Value} {base : Heap}
theorem Fun.okG {x qual : Str} {st : Stmt} {f : Addr} {fd : FuncData} {N ps : List Str} {k : Nat} {sp : Sp} (F : Fun K x qual st f fd) (S : FnScope N ps (defScope st)) (len : ∀ vs H Q E, sp vs H Q E → vs.length = ps.length)
    (reads : ∀ (cdv : Value) (A : Around) (outer : List Env) (u : Shared) (H : Hp) (vs : List V) (Q : VK) (E : XK), Room k (A.deeper (envOfC qual (defScope st) u.heap.objs.size f cdv)) → (A.deeper (envOfC qual (defScope st) u.heap.objs.size f cdv)).guards = some [] → sp vs H Q E →
      ∃ t, PSs (cxOf CX0 P w K mg base N qual (defScope st) f cdv A outer u H E).nox (defBody st) t ∧ t { nx := fun _ H' => Q .non H', rt := Q } (start N vs) H) : FnG P w K mg base CX0 (k + 1) f fd ps sp := by
  obtain ⟨oc, od, kV, doc, pm, an, cdv, ct, osl, rfl, lk, hcd⟩ := F.ex
  exact fn_g lk hcd S len fun A outer u H vs Q E room quiet promise => let ⟨t, h, q⟩ := reads cdv A outer u H vs Q E room quiet promise; ⟨t, h.nox, q⟩
end
end L2

/-! a def called by the names of all its parameters -/
namespace L2
open PySem PySem.Spec PyProof.Rows
section
variable {X : Cx} {CX : CXT} {k : Nat} {f : Addr} {fd : FuncData} {ps ks : List Str} {sp : Sp} {E : XK} {x : Str} {p pos : Pos} {kws : List Keyword} {tk : TA} {g : List Value → List Value → List Value} {gV : List V → List V → List V}
theorem pe_callK0 (F : FnOk X.prog X.w X.K X.mg X.base CX k f fd ps sp) (hr : Room k X.A) (hg : Gl X x) (hm : X.mg x = some (.ref f)) (hk : PySem.W.keepIn X.K (.ref f) = true) (hb : KBn X.K fd ps 0 ks g gV) (hx : Passes CX X E) (hkw : PK X kws tk)
    (named : (backToKw pos (keywordEach kws X.env)).all (·.1.isSome) = true := by rfl) (names : (backToKw pos (keywordEach kws X.env)).filterMap (·.1) = ks := by rfl) (hdb : (x == ("__debug__" : Str)) = false := by decide)
    (plain : ((backTo pos (starEach [] X.env)).any (·.1) || (backToKw pos (keywordEach kws X.env)).any (·.1.isNone)) = false := by rfl) :
    PE X (.Call (.Name x p) [] kws pos) (tCallN 0 ks.length sp gV E tNil tk) :=
  ⟨fun pins s σ H Q I h => wpAny_Call_Name_kw (ld_glob I hg hm (PySem.W.callWith_KW0 (h₀ := X.base) I.ok.mod.kin hk named (thn (hkw.run pos pins s σ H _ I h) fun ws s2 ⟨zs, H2, I2, rz, l1, l2, q2⟩ =>
    ⟨I2.kIn, by rw [names]; exact run_fnN (us := []) (vs := []) F hr hb hx I2 .nil rz rfl l2 q2⟩) plain) hdb)⟩
end
end L2

/-! repr of a dict of integers -/
namespace L2
open PySem PySem.Spec PyProof.Rows
def keyD : Key → PyData
  | .inl i => .int i
  | .inr z => .str z
def valD : V → PyData
  | .int i => .int i
  | _ => .none
def dictD (kvs : List (Key × V)) : PyData := .dict (kvs.map fun kv => (keyD kv.1, valD kv.2))
theorem pairs_read {P : Program} {w : World} {h : Heap} : ∀ {es : List DictEntry} {vs : List (Key × Value)} {kvs : List (Key × V)}, Pairs (mixKind P w) es vs → KV kvs vs → (∀ kv ∈ kvs, ∃ i : Int, kv.2 = .int i) →
    ReadsAll h (es.map (·.key)) ((kvs.map fun kv => (keyD kv.1, valD kv.2)).map (·.1)) [] ∧ ReadsAll h (es.map (·.val)) ((kvs.map fun kv => (keyD kv.1, valD kv.2)).map (·.2)) []
  | _, _, _, .nil, .nil, _ => ⟨.nil, .nil⟩
  | e :: _, c :: _, (k, v) :: kvs, .cons h1 h2 h3, .cons g1 g2, hi => by
    obtain ⟨i, hv⟩ := hi _ List.mem_cons_self
    have ih := pairs_read (h := h) h3 g2 fun kv hkv => hi kv (List.mem_cons_of_mem _ hkv)
    obtain ⟨e1, e2⟩ := g1
    have hv' : v = .int i := hv
    subst hv'
    refine ⟨?_, ?_⟩
    · refine ReadsAll.cons (as := []) (bs := []) ?_ ih.1
      show Reads h e.key (keyD k) []
      have hk : k = c.1 := e1
      rcases keyIs_shape (show keyIs c.1 e.key = true from h1) with ⟨j, t, ek, ev⟩ | ⟨z, t, ek, ev⟩
      · rw [ev, hk, ek]
        exact Reads.int j t
      · rw [ev, hk, ek]
        exact Reads.str z t
    · refine ReadsAll.cons (as := []) (bs := []) ?_ ih.2
      show Reads h e.val (.int i) []
      obtain ⟨t, et⟩ := (show RelV (V.int i) c.2 from e2)
      rw [h2, et]
      exact Reads.int i t
theorem depth_kv : ∀ kvs : List (Key × V), PyData.depthKv (kvs.map fun kv => (keyD kv.1, valD kv.2)) = 0
  | [] => rfl
  | (k, v) :: r => by
    rw [List.map_cons, PyData.depthKv, depth_kv r]
    have e1 : (keyD k).depth = 0 := by cases k <;> rfl
    have e2 : (valD v).depth = 0 := by cases v <;> rfl
    rw [e1, e2]
    rfl
theorem depth_dict (kvs : List (Key × V)) : (dictD kvs).depth = 1 := by
  unfold dictD
  rw [PyData.depth, depth_kv]
def rReprD : List V → Hp → VK → Prop := fun xs H Q => ∃ (a : Addr) (kvs : List (Key × V)), xs = [.ref a] ∧ H a = some (.dK kvs) ∧ (∀ kv ∈ kvs, ∃ i : Int, kv.2 = .int i) ∧ (dictD kvs).showable = true ∧ (dictD kvs).shown.length ≤ sizeLine ∧ Q (.str (dictD kvs).shown) H
theorem call_reprD {X : Cx} (quiet : X.A.guards = some []) (hu : X.A.units + 40 < cLine) : CallR X (.builtin "repr") rReprD := by
  intro pins s σ H xs us Q I r h
  obtain ⟨a, kvs, rfl, ha, hint, hshow, hsize, q⟩ := h
  cases r with
  | cons r1 r2 =>
    cases r2
    cases r1
    obtain ⟨hlen, hsys, vs, kv, o, es, ep, ho, hex, hdat, hkeys, hpairs, hnd⟩ := I.hok a _ ha
    obtain ⟨k1, k2⟩ := pairs_read (h := s.heap) hpairs kv hint
    have rd : Reads s.heap (.ref a) (dictD kvs) (a :: [] ++ []) := Reads.dict ho hex.1 hdat k1 k2
    refine repr_of_reads' rd hshow (fun _ hm => ?_) quiet (by rw [depth_dict]; omega) (fun _ _ e => e) (fun h' u tk hk => ⟨.str (dictD kvs).shown, H, I.kept fun b o e => hk b o e, ⟨u, rfl⟩, q⟩) hsize
    simp at hm
    simp [hm] at hsys
end L2

/-! the text of a dict of integers is short -/
namespace L2
open PySem PySem.Spec PyProof.Rows
theorem piled_le {B : Nat} : ∀ {ts : List Str}, (∀ t ∈ ts, t.length ≤ B) → piled ts ≤ ts.length * (B + 2)
  | [], _ => by simp [piled]
  | t :: r, h => by
    have ih := piled_le (ts := r) fun u hu => h u (List.mem_cons_of_mem _ hu)
    have := h t List.mem_cons_self
    rw [piled_cons, List.length_cons, Nat.add_mul]
    omega
theorem dictText_le {B : Nat} {ts : List Str} (h : ∀ t ∈ ts, t.length ≤ B) : (dictText ts).length ≤ 2 + ts.length * (B + 2) := by
  have e : (dictText ts).length = 1 + (Str.join ", " ts).length + 1 := by
    unfold dictText
    rw [strLen_append, strLen_append]
    rfl
  by_cases hn : ts = []
  · subst hn
    rw [e]
    show 1 + 0 + 1 ≤ 2 + 0 * (B + 2)
    omega
  · have h2 := join_length_add ts hn
    have h3 := piled_le h
    omega
theorem shownKv_eq2 : ∀ kvs : List (Key × V), PyData.shownKv (kvs.map fun kv => (keyD kv.1, valD kv.2)) = kvs.map fun kv => (keyD kv.1).shown ++ ": " ++ (valD kv.2).shown
  | [] => rfl
  | (k, v) :: r => by
    rw [List.map_cons, PyData.shownKv, shownKv_eq2 r]
    rfl
/-- at most a thousand entries, each key's and each value's text of at most five hundred signs -/
theorem dict_short {kvs : List (Key × V)} (hl : kvs.length ≤ 1000) (h : ∀ kv ∈ kvs, (keyD kv.1).shown.length ≤ 500 ∧ (valD kv.2).shown.length ≤ 500) : (dictD kvs).shown.length ≤ sizeLine := by
  unfold dictD
  rw [PyData.shown, shownKv_eq2]
  refine Nat.le_trans (dictText_le (B := 1002) fun t ht => ?_) ?_
  · obtain ⟨kv, hkv, rfl⟩ := List.mem_map.mp ht
    obtain ⟨h1, h2⟩ := h kv hkv
    rw [strLen_append, strLen_append]
    have : (": " : Str).length = 2 := rfl
    omega
  · rw [List.length_map]
    have h1 : sizeLine = 16777216 := rfl
    rw [h1]
    omega
theorem show_kv : ∀ {kvs : List (Key × V)}, (∀ kv ∈ kvs, (keyD kv.1).showable = true ∧ (valD kv.2).showable = true) → PyData.showableKv (kvs.map fun kv => (keyD kv.1, valD kv.2)) = true
  | [], _ => rfl
  | (k, v) :: r, h => by
    obtain ⟨h1, h2⟩ := h _ List.mem_cons_self
    rw [List.map_cons, PyData.showableKv, show_kv fun kv hkv => h kv (List.mem_cons_of_mem _ hkv)]
    rw [show (keyD k).showable = true from h1, show (valD v).showable = true from h2]
    rfl
theorem show_str {z : Str} : (PyData.str z).showable = true := by rw [PyData.showable]
theorem show_int {i : Int} (h : i.natAbs < 2 ^ 400) : (PyData.int i).showable = true := by
  rw [PyData.showable]
  refine decide_eq_true ?_
  by_cases h0 : i.natAbs = 0
  · rw [h0]; decide
  · exact Nat.lt_of_lt_of_le ((Nat.log2_lt h0).mpr h) (by decide)
theorem str_short {z : Str} (h : z.length ≤ 40) (hc : ∀ c ∈ z.cps.toList, c < 16 ^ 8) : (PyData.str z).shown.length ≤ 500 := by
  rw [PyData.shown]
  have := StrLaws.reprText_len z hc
  omega
theorem int_short {i : Int} (h : i.natAbs < 2 ^ 400) : (PyData.int i).shown.length ≤ 500 := by
  rw [PyData.shown]
  have hl : i.natAbs.log2 < 400 := by
    by_cases h0 : i.natAbs = 0
    · rw [h0]; decide
    · exact (Nat.log2_lt h0).mpr h
  have := int_text_length_le (by decide : 0 < 400) hl
  show (Str.ofString (toString i)).length ≤ 500
  rw [PySem.ofString_length]
  omega
end L2

namespace RK
open PySem L2
theorem nodup_sub {α : Type} [DecidableEq α] : ∀ {l m : List α}, l.Nodup → (∀ x ∈ l, x ∈ m) → l.length ≤ m.length
  | [], _, _, _ => Nat.zero_le _
  | x :: r, m, hn, h => by
    have hx := h x List.mem_cons_self
    obtain ⟨h1, h2⟩ := List.nodup_cons.mp hn
    have ih := nodup_sub (l := r) (m := m.erase x) h2 fun y hy => (List.mem_erase_of_ne (fun (z : y = x) => h1 (z ▸ hy))).mpr (h y (List.mem_cons_of_mem _ hy))
    rw [List.length_erase_of_mem hx] at ih
    have : 0 < m.length := List.length_pos_of_mem hx
    rw [List.length_cons]
    omega
theorem val_key {kvs : List (Key × V)} {k : Key} {v : V} (h : valV kvs k = some v) : k ∈ kvs.map (·.1) := by
  unfold valV at h
  cases e : kvs.find? fun kv => decide (kv.1 = k) with
  | none => rw [e] at h; cases h
  | some kv =>
    have h1 : kv.1 = k := of_decide_eq_true (List.find?_some (p := fun kv : Key × V => decide (kv.1 = k)) e)
    exact List.mem_map.mpr ⟨kv, List.mem_of_find?_eq_some e, h1⟩
/-- a dict with a key that is no walker's is no stand -/
theorem late_none {zs : List Str} {kvs : List (Key × V)} {k : Str} {v : V} (hnd : zs.Nodup) (hz : k ∉ zs) (hk : valV kvs (Sum.inr k : Key) = some v) : standB zs kvs = false := by
  cases h : standB zs kvs with
  | false => rfl
  | true =>
    have hd := (Bool.and_eq_true_iff.mp h).1
    unfold dictB at hd
    obtain ⟨h1, h2⟩ := Bool.and_eq_true_iff.mp hd
    have hl : kvs.length = zs.length := of_decide_eq_true h1
    have hall := List.all_eq_true.mp h2
    have q := nodup_sub (l := ((k :: zs).map fun z => (Sum.inr z : Key))) (m := kvs.map (·.1)) (nodup_keys (List.nodup_cons.mpr ⟨hz, hnd⟩)) fun x hx => by
      obtain ⟨z, hm, rfl⟩ := List.mem_map.mp hx
      rcases List.mem_cons.mp hm with e | e
      · rw [e]; exact val_key hk
      · have := hall z e
        cases e2 : valV kvs (Sum.inr z : Key) with
        | none => rw [e2] at this; cases this
        | some u => exact val_key e2
    simp only [List.length_map, List.length_cons] at q
    omega
theorem pool_len : ∀ z ∈ pool, z.length ≤ 1000 := by decide +kernel
theorem late_pool : ("late" : Str) ∉ pool := by decide +kernel
theorem find_congr {α : Type} {p q : α → Bool} : ∀ {l : List α}, (∀ x ∈ l, p x = q x) → l.find? p = l.find? q
  | [], _ => rfl
  | x :: r, h => by
    rw [List.find?_cons, List.find?_cons, h x List.mem_cons_self, find_congr fun y hy => h y (List.mem_cons_of_mem _ hy)]
theorem next_congr {zs : List Str} {kvs kvs' : List (Key × V)} (h : ∀ z ∈ zs, placeOf kvs' z = placeOf kvs z) {z : Str} (hz : z ∈ zs) : nextOf zs kvs' z = nextOf zs kvs z := by
  unfold nextOf
  exact find_congr fun y hy => by rw [h y hy, h z hz]
theorem same_strs {G : Hp} {a b : Addr} {l : List Str} {n : Nat} (ha : G a = some (.lst (l.map V.str))) (hb : G b = some (.lst (l.map V.str))) (hl : l.length ≤ 1000) (hz : ∀ z ∈ l, z.length ≤ 1000) : SameD G (n + 1) (.ref a) (.ref b) :=
  .lst ha hb rfl (by rw [List.length_map]; exact hl) fun i x y e1 e2 => by
    rw [e1] at e2; cases e2
    obtain ⟨z, hz1, rfl⟩ := get_map e1
    exact .str (hz z (List.mem_of_getElem? hz1))
theorem st_nil {σ : St} {H : Hp} {k : List V → Hp → Prop} (h : k [] H) : tNil σ H k := h
theorem text_ok {zs ks : List Str} {kvs : List (Key × V)} (hst : Sta zs ks kvs) (hz : ∀ z ∈ zs, z ∈ pool) (hl : zs.length ≤ 1000) (hb : ∀ z ∈ zs, (placeOf kvs z).natAbs < 2 ^ 100) :
    (∀ kv ∈ kvs, ∃ i : Int, kv.2 = .int i) ∧ (dictD kvs).showable = true ∧ (dictD kvs).shown.length ≤ sizeLine := by
  have hk : ∀ kv ∈ kvs, ∃ z, z ∈ zs ∧ kv = ((Sum.inr z : Key), V.int (placeOf kvs z)) := fun kv hm => by
    rw [hst.eq] at hm
    obtain ⟨y, hy, e⟩ := List.mem_map.mp hm
    exact ⟨y, hst.pm.mem_iff.mp hy, e.symm⟩
  have hint : ∀ z ∈ zs, (placeOf kvs z).natAbs < 2 ^ 400 := fun z h => Nat.lt_of_lt_of_le (hb z h) (Nat.pow_le_pow_right (by decide) (by decide))
  have hp : ∀ z ∈ pool, z.length ≤ 40 ∧ ∀ c ∈ z.cps.toList, c < 16 ^ 8 := by decide +kernel
  refine ⟨fun kv hm => ?_, ?_, ?_⟩
  · obtain ⟨z, _, rfl⟩ := hk kv hm
    exact ⟨_, rfl⟩
  · unfold dictD
    rw [PyData.showable]
    refine show_kv fun kv hm => ?_
    obtain ⟨z, h, rfl⟩ := hk kv hm
    exact ⟨show_str, show_int (hint z h)⟩
  · refine dict_short (by rw [hst.len]; exact hl) fun kv hm => ?_
    obtain ⟨z, h, rfl⟩ := hk kv hm
    obtain ⟨h1, h2⟩ := hp z (hz z h)
    exact ⟨str_short h1 h2, int_short (hint z h)⟩
theorem scan_none : ∀ {r seen : List Str}, (seen ++ r).Nodup → Nm r → 2 ≤ (seen ++ r).length → scan (seen.map V.str) (r.map V.str) = none
  | [], seen, _, _, h2 => by
    rw [List.append_nil] at h2
    show (if _ then _ else _) = _
    rw [if_neg (by rw [List.length_map]; omega)]
  | z :: r, seen, hnd, hnm, h2 => by
    have e : seen ++ z :: r = (seen ++ [z]) ++ r := by simp
    have hz : z ∉ seen := fun hm => by
      have := (List.nodup_append.mp hnd).2.2 z hm z List.mem_cons_self
      exact this rfl
    have hn : nameV (.str z) = true := hnm z List.mem_cons_self
    rw [List.map_cons]
    show (if _ then _ else _) = _
    have hd : decide (V.str z ∈ seen.map V.str) = false := decide_eq_false fun q => by
      obtain ⟨u, hu, e⟩ := List.mem_map.mp q
      cases e
      exact hz hu
    rw [if_pos (by rw [hn, hd]; rfl)]
    have := scan_none (r := r) (seen := seen ++ [z]) (by rw [← e]; exact hnd) (fun y hy => hnm y (List.mem_cons_of_mem _ hy)) (by rw [← e]; exact h2)
    rw [List.map_append] at this
    exact this
theorem str_inj : ∀ {l m : List Str}, l.map V.str = m.map V.str → l = m
  | [], [], _ => rfl
  | [], _ :: _, h => by cases h
  | _ :: _, [], h => by cases h
  | x :: l, y :: m, h => by
    rw [List.map_cons, List.map_cons] at h
    obtain ⟨h1, h2⟩ := List.cons.inj h
    cases h1
    rw [str_inj h2]
theorem same_first {G : Hp} {a b : Addr} {zs : List Str} (ha : G a = some (.dK (firstKv zs))) (hb : G b = some (.dK (firstKv zs))) (hl : zs.length ≤ 1000) (hz : ∀ z ∈ zs, z.length ≤ 1000) : SameD G 3 (.ref a) (.ref b) := by
  refine .dict (n := 0) ha hb rfl (by unfold firstKv; rw [List.length_map, List.length_zipIdx]; exact hl) (fun i p q e1 e2 => ?_) fun i p q e1 e2 => ?_
  · rw [e1] at e2; cases e2
    refine ⟨rfl, ?_⟩
    unfold firstKv at e1
    obtain ⟨x, hx, rfl⟩ := List.mem_map.mp (List.mem_of_getElem? e1)
    exact hz _ (List.fst_mem_of_mem_zipIdx hx)
  · rw [e1] at e2; cases e2
    unfold firstKv at e1
    obtain ⟨x, hx, rfl⟩ := List.mem_map.mp (List.mem_of_getElem? e1)
    exact .int _
theorem But.fresh {H H' : Hp} {a : Addr} (b : But a H H') (h : H a = none) : Same H H' := fun c o e => b c o (ne_of_none e h) e
theorem st_cons {ta : TE} {t : TA} {σ : St} {H : Hp} {k : List V → Hp → Prop} (h : ta σ H fun x H1 => t σ H1 fun xs H2 => k (x :: xs) H2) : tCons ta t σ H k := h
theorem st_c {v : V} {σ : St} {H : Hp} {Q : VK} (h : Q v H) : L2.tC v σ H Q := h
theorem init_good {K : PySem.W.Frag} {C CB : Addr} {x dx av : Addr} {kd : Kd} {zs : List Str} {H : Hp} {Q : VK} {E : XK} (hx : H x = none) (hdx : H dx = none) (hseq : SeqAt2 H av (zs.map V.str) kd) (hnd : zs.Nodup) (hnm : Nm zs) (hz : ∀ z ∈ zs, z.length ≤ 1000) (h2 : 2 ≤ zs.length) (hl : zs.length ≤ 1000)
    (h : ∀ t H', PathAt C H' x t zs → Same H H' → Q .non H') : spInit K C CB [.ref x, .ref av] (upd (upd H dx (.own x)) x (.ins C dx [])) Q E := by
  have hwn : wrongIx (zs.map V.str) = none := scan_none (seen := []) hnd hnm h2
  have s5 : Same H (upd (upd H dx (.own x)) x (.ins C dx [])) := fun b u e => by
    rw [upd_ne (ne_of_none e hx), upd_ne (ne_of_none e hdx)]
    exact e
  refine ⟨x, dx, .ref av, kd, rfl, upd_same, (hseq.same s5).th.1, fun hk => absurd (hseq.th (K := K)).2 (by rw [hk]; exact Bool.false_ne_true), fun _ => ?_⟩
  refine ⟨av, zs.map V.str, rfl, hseq.same s5, by rw [List.length_map]; exact hl, fun y hy => ?_, fun i hi => absurd (hwn.symm.trans hi) (fun q => nomatch q), fun _ zs' t H5 hxs hpa hbut => ?_⟩
  · obtain ⟨z, hm, rfl⟩ := List.mem_map.mp hy
    exact ⟨_, .str (hz z hm)⟩
  · cases str_inj hxs
    exact h t H5 hpa fun b u e => hbut b u (s5 b u e) (ne_of_none e hx)
end RK

/-! l.count(x), items data of any depth -/
namespace L2
open PySem PySem.Spec PyProof.Rows
section
variable {X : Cx}
def rCountD (K : PySem.W.Frag) : V → List V → Hp → VK → Prop := fun x xs H Q => ∃ (a : Addr) (y : V) (d : PyData) (ds : List PyData), x = V.ref a ∧ xs = [y] ∧ Dp K H (V.ref a) (.list ds) ∧ Dp K H y d ∧ SeqAt.shaped (.list ds) = true ∧ SeqAt.shaped d = true ∧ Q (.int ((ds.countP fun z => PyData.eqv z d) : Nat)) H
theorem mt_countD (hu : X.A.units + 65 < cLine) : MtR X "list.count" (rCountD X.K) := by
  intro pins s σ H x xs v us Q I rx rxs h
  obtain ⟨a, y, d, ds, rfl, rfl, hl, hy, sl, sd, q⟩ := h
  cases rx
  obtain ⟨uy, rfl, ry⟩ := rxs.one
  obtain ⟨bs, r1⟩ := Dp.reads I d y uy hy ry
  have lay : PyData.canLayAll0 ds = true := SeqAt.canLay_of_shaped sl
  have deep : X.A.units + 1 + min (PyData.depthAll ds) d.depth < cLine := room_in_shaped sd hu
  cases hl with
  | lst hs ha =>
    obtain ⟨its, rv, ⟨⟨cls, dd, data, sls⟩, n, ho, hc, hdn, hdt⟩, hlen⟩ := I.list hs
    simp only at hc hdt
    subst hc hdt
    obtain ⟨as, h4⟩ := Dp.readsAll I ds _ its ha rv
    have same : its.map (SeqAt.readOf s.heap) = ds := SeqAt.readsAll_map ds its as lay h4
    refine call_meets PySem.F.slot_list_count ⟨_, ho, rfl⟩ PySem.F.entry_list_count (PySem.F.args_list_count_2 _ _)
      (SeqAt.list_countAt a its.toArray n dd sls uy (fun u => PyData.eqv (SeqAt.readOf s.heap u) d)) ⟨ho, SeqAt.items_eqAt (vs := its.toArray) (show ReadsAll s.heap its.toArray.toList ds as from h4) r1 lay (SeqAt.canLay_of_shaped sd) deep, ?_⟩
    have e : its.toArray.toList.countP (fun u => PyData.eqv (SeqAt.readOf s.heap u) d) = ds.countP fun z => PyData.eqv z d := by
      rw [← same, List.countP_map]
      rfl
    exact ⟨.int ((ds.countP fun z => PyData.eqv z d) : Nat), H, I.tok _, ⟨s.toks, by rw [e]⟩, q⟩
end
/-! pairs of texts -/
def prS (p : Str × Str) : PyData := .tuple [.str p.1, .str p.2]
def okS (p : Str × Str) : Prop := PyData.strOk p.1 = true ∧ PyData.strOk p.2 = true
theorem prS_lay {p : Str × Str} (h : okS p) : (prS p).canLay0 = true := by simp [prS, PyData.canLay0, PyData.canLayAll0, h.1, h.2]
theorem prS_depth (p : Str × Str) : (prS p).depth = 1 := by simp [prS, PyData.depth, PyData.depthAll]
theorem prS_lays : ∀ {l : List (Str × Str)}, (∀ p ∈ l, okS p) → PyData.canLayAll0 (l.map prS) = true
  | [], _ => by simp [PyData.canLayAll0]
  | p :: l, h => by
    have h1 := prS_lay (h p List.mem_cons_self)
    have h2 := prS_lays (l := l) fun q hq => h q (List.mem_cons_of_mem _ hq)
    simp [PyData.canLayAll0, h1, h2]
theorem prS_depths : ∀ l : List (Str × Str), PyData.depthAll (l.map prS) ≤ 1
  | [] => by simp [PyData.depthAll]
  | p :: l => by
    have h1 := prS_depths l
    have h2 := prS_depth p
    simp only [List.map_cons, PyData.depthAll]
    omega
theorem prS_shaped {p : Str × Str} (h : okS p) : SeqAt.shaped (prS p) = true := by
  show ((prS p).canLay0 && decide ((prS p).depth ≤ 64)) = true
  rw [prS_lay h, prS_depth p]
  rfl
theorem prS_shapeds {l : List (Str × Str)} (h : ∀ p ∈ l, okS p) : SeqAt.shaped (.list (l.map prS)) = true := by
  have h1 := prS_depths l
  have h2 : PyData.depth (.list (l.map prS)) ≤ 64 := by
    simp only [PyData.depth]
    omega
  show (PyData.canLay0 (.list (l.map prS)) && decide (PyData.depth (.list (l.map prS)) ≤ 64)) = true
  rw [Bool.and_eq_true]
  exact ⟨by simp only [PyData.canLay0]; exact prS_lays h, decide_eq_true h2⟩
theorem prS_eqv (p q : Str × Str) : PyData.eqv (prS p) (prS q) = decide (p = q) := by
  obtain ⟨a, b⟩ := p
  obtain ⟨c, d⟩ := q
  have e : PyData.eqv (prS (a, b)) (prS (c, d)) = ((a == c) && ((b == d) && true)) := by simp only [prS, PyData.eqv, PyData.eqvAll]
  rw [e]
  by_cases h1 : a = c
  · by_cases h2 : b = d
    · subst h1; subst h2
      simp
    · rw [beq_eq_false_iff_ne.mpr h2, Bool.false_and, Bool.and_false, decide_eq_false (fun q => h2 (Prod.mk.inj q).2)]
  · rw [beq_eq_false_iff_ne.mpr h1, Bool.false_and, decide_eq_false (fun q => h1 (Prod.mk.inj q).1)]
theorem prS_dp {K : PySem.W.Frag} {H : Hp} {t : Addr} {a b : Str} (h : H t = some (.tup [.str a, .str b])) : Dp K H (.ref t) (prS (a, b)) := .tup (SqT.of h) (.cons (.str a) (.cons (.str b) .nil))
end L2

namespace RK
open PySem L2
/-! ### the law's own net -/
def qN (zs : List Str) (kvs : List (Key × V)) (a b : Str) : Int := (placeOf kvs a - placeOf kvs b) / (zs.length : Int)
/-- the net by places -/
def netP (zs : List Str) (kvs : List (Key × V)) (a b : Str) : Int := qN zs kvs a b - (((zs.idxOf a : Nat) : Int) - ((zs.idxOf b : Nat) : Int)) / (zs.length : Int)
theorem idx_str {zs : List Str} {a : Str} (h : a ∈ zs) : (zs.map V.str)[zs.idxOf a]? = some (.str a) ∧ ∀ (m : Nat) (z' : V), m < zs.idxOf a → (zs.map V.str)[m]? = some z' → eqV z' (.str a) = false := by
  have hl := List.idxOf_lt_length_of_mem h
  refine ⟨?_, fun m z' hm hz => ?_⟩
  · rw [List.getElem?_map, List.getElem?_eq_getElem hl, List.getElem_idxOf hl]
    rfl
  · obtain ⟨z, e, rfl⟩ := get_map hz
    obtain ⟨h1, h2⟩ := List.getElem?_eq_some_iff.mp e
    show decide (z = a) = false
    refine decide_eq_false fun q => ?_
    have := List.not_of_lt_findIdx (p := (· == a)) (xs := zs) hm
    subst q
    rw [h2] at this
    simp at this

def spWNet : Sp := fun vs H Q _ => ∃ (d : Addr) (zs : List Str) (kvs : List (Key × V)) (a b : Str), vs = [.ref d, .str a, .str b] ∧ H d = some (.dK kvs) ∧ Sta zs zs kvs ∧ a ∈ zs ∧ b ∈ zs ∧ zs.length ≤ 1000 ∧ ∀ H', Same H H' → Q (.int (netP zs kvs a b)) H'
section
variable {P : Program} {w : World} {K : PySem.W.Frag} {mg : Str → Option Value} {base : Heap}
end
end RK

/-! a walk with any body: for comprehensions of two clauses -/
namespace L2
open PySem PySem.Spec PyProof.Rows
theorem lcg_it {J : It} {n : Nat} {G : Hp → Prop} {Y : Nat → Hp → V → Hp → Prop} (w : Walk J n G Y) {Bd : (Hp → Prop) → V → Hp → Prop} {H0 : Hp} {Qd : Hp → Prop} (Pv : Nat → Hp → Prop) (h0 : Pv 0 H0) (hG : ∀ i H, i ≤ n → Pv i H → G H)
    (hs : ∀ i x H H', i < n → Pv i H → Y i H x H' → Bd (Pv (i + 1)) x H') (hd : ∀ H, Pv n H → Qd H) :
    ∃ W : Nat → Nat → Hp → Prop, (∃ m, W 0 m H0) ∧ ∀ i m H, W i m H →
      (J.stop i H ∧ Qd H) ∨ (J.go i H ∧ ∃ Nx : Hp → Prop, (∀ H', Nx H' → ∃ m', m' < m ∧ W (i + 1) m' H') ∧ ∀ x H', J.yld i H x H' → Bd Nx x H') := by
  refine ⟨fun i m H => m = n - i ∧ i ≤ n ∧ Pv i H, ⟨n, by simp, Nat.zero_le _, h0⟩, ?_⟩
  rintro i m H ⟨rfl, hi, p⟩
  have q := hG i H hi p
  by_cases hlt : i < n
  · exact .inr ⟨w.goes i H hlt q, Pv (i + 1), fun H' p' => ⟨n - (i + 1), by omega, rfl, hlt, p'⟩, fun x H' y => hs i x H H' hlt p (w.yields i H x H' hlt q y)⟩
  · have e : i = n := by omega
    subst e
    exact .inl ⟨w.stops H q, hd H p⟩
end L2

namespace RK
open PySem L2
/-! ### pairs of names -/
def pairsFrom (zs : List Str) : List Str → List (Str × Str)
  | [] => []
  | a :: r => (zs.filter fun b => decide (a ≠ b)).map (fun b => (a, b)) ++ pairsFrom zs r
def pairsOf (zs : List Str) : List (Str × Str) := pairsFrom zs zs
def pairsAhead : List Str → List (Str × Str)
  | [] => []
  | a :: r => r.map (fun b => (a, b)) ++ pairsAhead r
theorem paired_cat {α β : Type} {F : α → β → Prop} : ∀ {a : List α} {b : List β} {c : List α} {d : List β}, Paired F a b → Paired F c d → Paired F (a ++ c) (b ++ d)
  | [], [], _, _, .nil, h => h
  | _ :: _, _ :: _, _, _, .cons h r, q => .cons h (paired_cat r q)
/-- what is laid at the list D so far, with what is still to come, is all -/
def LaidP (D : Addr) (all rem : List (Str × Str)) (G : Hp) : Prop := ∃ (ts : List Addr) (rn : List (Str × Str)), G D = some (.lst (ts.map V.ref)) ∧ Paired (fun (t : Addr) (pr : Str × Str) => t ≠ D ∧ G t = some (.tup [.str pr.1, .str pr.2])) ts rn ∧ rn ++ rem = all
theorem LaidP.len {D : Addr} {all rem : List (Str × Str)} {G : Hp} (h : LaidP D all rem G) : ∃ acc, G D = some (.lst acc) ∧ acc.length ≤ all.length := by
  obtain ⟨ts, rn, h1, h2, h3⟩ := h
  refine ⟨_, h1, ?_⟩
  rw [List.length_map, Paired.length h2, ← h3, List.length_append]
  omega
theorem LaidP.step {D T : Addr} {all rem : List (Str × Str)} {G G1 : Hp} {p : Str × Str} (h : LaidP D all (p :: rem) G) (hT : G T = none) (e : upd G T (.tup [.str p.1, .str p.2]) = G1) : ∃ acc, G1 D = some (.lst acc) ∧ acc.length < all.length ∧ LaidP D all rem (upd G1 D (.lst (acc ++ [.ref T]))) := by
  obtain ⟨ts, rn, h1, h2, h3⟩ := h
  have s : Same G G1 := e ▸ same_upd hT
  have hTD : T ≠ D := Ne.symm (ne_of_none h1 hT)
  refine ⟨_, s _ _ h1, ?_, ts ++ [T], rn ++ [p], by rw [upd_same, List.map_append]; rfl, ?_, by rw [List.append_assoc]; exact h3⟩
  · rw [List.length_map, Paired.length h2, ← h3, List.length_append, List.length_cons]
    omega
  · exact paired_cat (Paired.mono (fun u q z => ⟨z.1, by rw [upd_ne z.1]; exact s _ _ z.2⟩) h2) (.cons ⟨hTD, by rw [upd_ne hTD, ← e, upd_same]⟩ .nil)
theorem LaidP.pairs {D : Addr} {all : List (Str × Str)} {G : Hp} (h : LaidP D all [] G) : PairsAt G D all := by
  obtain ⟨ts, rn, h1, h2, h3⟩ := h
  rw [List.append_nil] at h3
  exact ⟨ts, h1, h3 ▸ h2⟩
theorem cut_take {xs : List V} {k : Nat} (h : k ≤ xs.length) : cutV xs none (some (k : Int)) = xs.take k := by
  unfold cutV
  rw [HT.sIx_nat, HT.sIx_none, Nat.min_eq_left h]
  rfl
theorem cut_drop {xs : List V} {k : Nat} (h : k ≤ xs.length) : cutV xs (some (k : Int)) none = xs.drop k := by
  unfold cutV
  rw [HT.sIx_nat, HT.sIx_none, Nat.min_eq_left h]
  exact List.take_of_length_le (by rw [List.length_drop]; exact Nat.le_refl _)
theorem from_len {zs : List Str} : ∀ {r : List Str}, (pairsFrom zs r).length ≤ zs.length * r.length
  | [] => Nat.zero_le _
  | a :: r => by
    have h := from_len (zs := zs) (r := r)
    have h1 := List.length_filter_le (fun b => decide (a ≠ b)) zs
    show ((zs.filter fun b => decide (a ≠ b)).map (fun b => (a, b)) ++ pairsFrom zs r).length ≤ _
    rw [List.length_append, List.length_map, List.length_cons, Nat.mul_succ]
    omega
theorem ahead_len : ∀ {r : List Str}, (pairsAhead r).length ≤ r.length * r.length
  | [] => Nat.zero_le _
  | a :: r => by
    have h := ahead_len (r := r)
    show (r.map (fun b => (a, b)) ++ pairsAhead r).length ≤ _
    rw [List.length_append, List.length_map, List.length_cons, Nat.succ_mul, Nat.mul_succ]
    omega
theorem sq_room {n : Nat} (h : n ≤ 1000) : n * n < sizeLine := Nat.lt_of_le_of_lt (Nat.mul_le_mul h h) (by decide)
def spPairsOf : Sp := fun vs H Q _ => ∃ (n : Addr) (zs : List Str), vs = [.ref n] ∧ H n = some (.lst (zs.map V.str)) ∧ zs.length ≤ 1000 ∧ ∀ p H', H p = none → PairsAt H' p (pairsOf zs) → Same H H' → Q (.ref p) H'
def spPairsAh : Sp := fun vs H Q _ => ∃ (n : Addr) (zs : List Str), vs = [.ref n] ∧ H n = some (.lst (zs.map V.str)) ∧ zs.length ≤ 1000 ∧ ∀ p H', H p = none → PairsAt H' p (pairsAhead zs) → Same H H' → Q (.ref p) H'
section
variable {P : Program} {w : World} {K : PySem.W.Frag} {mg : Str → Option Value} {base : Heap}
end
end RK

namespace RK
open PySem L2
/-! ### dicts keyed by pairs of names -/
def kP (p : Str × Str) : List Key := [Sum.inr p.1, Sum.inr p.2]
def kvP (l : List (Str × Str)) (g : Str × Str → Int) : List (List Key × V) := l.map fun p => (kP p, V.int (g p))
theorem kP_inj {p q : Str × Str} (h : kP p = kP q) : p = q := by
  unfold kP at h
  obtain ⟨h1, h2⟩ := List.cons.inj h
  obtain ⟨h3, _⟩ := List.cons.inj h2
  exact Prod.ext (Sum.inr.inj h1) (Sum.inr.inj h3)
theorem kP_kV {p : Str × Str} : (kP p).map kV = [.str p.1, .str p.2] := rfl
theorem val_new {l : List (Str × Str)} {g : Str × Str → Int} {p : Str × Str} (h : p ∉ l) : valV (kvP l g) (kP p) = none := by
  unfold valV kvP
  rw [List.find?_eq_none.mpr]
  · rfl
  · intro x hx q
    obtain ⟨y, hy, rfl⟩ := List.mem_map.mp hx
    exact h (kP_inj (of_decide_eq_true q) ▸ hy)
theorem val_P {g : Str × Str → Int} {p : Str × Str} : ∀ {l : List (Str × Str)}, p ∈ l → valV (kvP l g) (kP p) = some (.int (g p))
  | [], h => nomatch h
  | y :: r, h => by
    unfold kvP valV
    rw [List.map_cons, List.find?_cons]
    by_cases e : y = p
    · subst e
      rw [decide_eq_true rfl]
      rfl
    · rw [decide_eq_false (fun q => e (kP_inj q))]
      rcases List.mem_cons.mp h with q | q
      · exact absurd q.symm e
      · exact val_P q
theorem put_P_new {l : List (Str × Str)} {g : Str × Str → Int} {p : Str × Str} (h : p ∉ l) : putK (kvP l g) (kP p) (.int (g p)) = kvP (l ++ [p]) g := by
  rw [putK_new _ (val_new h)]
  unfold kvP
  rw [List.map_append]
  rfl
theorem put_P {l : List (Str × Str)} {g : Str × Str → Int} {p : Str × Str} {v : Int} (h : p ∈ l) : putK (kvP l g) (kP p) (.int v) = kvP l fun q => if q = p then v else g q := by
  unfold putK
  rw [if_pos]
  · unfold kvP
    rw [List.map_map]
    refine List.map_congr_left fun u hu => ?_
    show (if kP u = kP p then (kP u, V.int v) else (kP u, V.int (g u))) = (kP u, V.int (if u = p then v else g u))
    by_cases e : u = p
    · subst e; rw [if_pos rfl, if_pos rfl]
    · rw [if_neg (fun q => e (kP_inj q)), if_neg e]
  · unfold kvP
    exact List.any_eq_true.mpr ⟨_, List.mem_map.mpr ⟨p, h, rfl⟩, decide_eq_true rfl⟩
theorem kvP_congr {l : List (Str × Str)} {g g' : Str × Str → Int} (h : ∀ p ∈ l, g p = g' p) : kvP l g = kvP l g' := List.map_congr_left fun p hp => by rw [h p hp]
theorem kvP_len {l : List (Str × Str)} {g : Str × Str → Int} : (kvP l g).length = l.length := List.length_map _
/-! ### which pairs -/
theorem mem_from {zs : List Str} {a b : Str} : ∀ {r : List Str}, (a, b) ∈ pairsFrom zs r ↔ a ∈ r ∧ b ∈ zs ∧ a ≠ b
  | [] => by
    constructor
    · intro h; exact nomatch h
    · intro h; exact nomatch h.1
  | x :: r => by
    show (a, b) ∈ (zs.filter fun b => decide (x ≠ b)).map (fun b => (x, b)) ++ pairsFrom zs r ↔ _
    rw [List.mem_append, mem_from (r := r), List.mem_map]
    constructor
    · rintro (⟨y, hy, e⟩ | ⟨h1, h2⟩)
      · cases e
        obtain ⟨h1, h2⟩ := List.mem_filter.mp hy
        exact ⟨List.mem_cons_self, h1, of_decide_eq_true h2⟩
      · exact ⟨List.mem_cons_of_mem _ h1, h2⟩
    · rintro ⟨h1, h2, h3⟩
      rcases List.mem_cons.mp h1 with e | e
      · subst e
        exact .inl ⟨b, List.mem_filter.mpr ⟨h2, decide_eq_true h3⟩, rfl⟩
      · exact .inr ⟨e, h2, h3⟩
theorem mem_pairs {zs : List Str} {a b : Str} : (a, b) ∈ pairsOf zs ↔ a ∈ zs ∧ b ∈ zs ∧ a ≠ b := mem_from
theorem nodup_pair {a : Str} {l : List Str} (h : l.Nodup) : (l.map fun b => (a, b)).Nodup := nodup_inj h fun x _ y _ e => (Prod.mk.inj e).2
theorem nodup_from {zs : List Str} (hz : zs.Nodup) : ∀ {r : List Str}, r.Nodup → (pairsFrom zs r).Nodup
  | [], _ => List.nodup_nil
  | x :: r, h => by
    obtain ⟨h1, h2⟩ := List.nodup_cons.mp h
    refine List.nodup_append.mpr ⟨nodup_pair (hz.filter _), nodup_from hz h2, ?_⟩
    rintro p hp q hq rfl
    obtain ⟨y, _, rfl⟩ := List.mem_map.mp hp
    exact h1 (mem_from.mp hq).1
theorem nodup_pairs {zs : List Str} (hz : zs.Nodup) : (pairsOf zs).Nodup := nodup_from hz hz
theorem mem_ahead {a b : Str} : ∀ {zs : List Str}, zs.Nodup → ((a, b) ∈ pairsAhead zs ↔ a ∈ zs ∧ b ∈ zs ∧ zs.idxOf a < zs.idxOf b)
  | [], _ => by
    constructor
    · intro h; exact nomatch h
    · intro h; exact nomatch h.1
  | x :: r, h => by
    obtain ⟨h1, h2⟩ := List.nodup_cons.mp h
    show (a, b) ∈ r.map (fun b => (x, b)) ++ pairsAhead r ↔ _
    rw [List.mem_append, mem_ahead h2, List.mem_map, List.idxOf_cons, List.idxOf_cons]
    constructor
    · rintro (⟨y, hy, e⟩ | ⟨h3, h4, h5⟩)
      · obtain ⟨rfl, rfl⟩ := Prod.mk.inj e
        refine ⟨List.mem_cons_self, List.mem_cons_of_mem _ hy, ?_⟩
        have e3 : (x == y) = false := beq_eq_false_iff_ne.mpr fun e => h1 (e ▸ hy)
        rw [e3, beq_self_eq_true]
        show 0 < _ + 1
        omega
      · refine ⟨List.mem_cons_of_mem _ h3, List.mem_cons_of_mem _ h4, ?_⟩
        have e1 : (x == a) = false := beq_eq_false_iff_ne.mpr fun e => h1 (e ▸ h3)
        have e2 : (x == b) = false := beq_eq_false_iff_ne.mpr fun e => h1 (e ▸ h4)
        rw [e1, e2]
        show _ + 1 < _ + 1
        omega
    · rintro ⟨h3, h4, h5⟩
      by_cases e1 : x = a
      · subst e1
        by_cases e2 : x = b
        · subst e2
          simp at h5
        · rcases List.mem_cons.mp h4 with e | e
          · exact absurd e.symm e2
          · exact .inl ⟨b, e, rfl⟩
      · by_cases e2 : x = b
        · subst e2
          rw [beq_self_eq_true] at h5
          exact absurd h5 (Nat.not_lt_zero _)
        · rcases List.mem_cons.mp h3 with e | e
          · exact absurd e.symm e1
          rcases List.mem_cons.mp h4 with e3 | e3
          · exact absurd e3.symm e2
          have q1 : (x == a) = false := beq_eq_false_iff_ne.mpr e1
          have q2 : (x == b) = false := beq_eq_false_iff_ne.mpr e2
          rw [q1, q2] at h5
          exact .inr ⟨e, e3, Nat.lt_of_succ_lt_succ h5⟩
theorem nodup_ahead : ∀ {zs : List Str}, zs.Nodup → (pairsAhead zs).Nodup
  | [], _ => List.nodup_nil
  | x :: r, h => by
    obtain ⟨h1, h2⟩ := List.nodup_cons.mp h
    refine List.nodup_append.mpr ⟨nodup_pair h2, nodup_ahead h2, ?_⟩
    rintro p hp q hq rfl
    obtain ⟨y, _, rfl⟩ := List.mem_map.mp hp
    exact h1 ((mem_ahead h2).mp hq).1
theorem ahead_pairs {zs : List Str} (h : zs.Nodup) {p : Str × Str} (hp : p ∈ pairsAhead zs) : p ∈ pairsOf zs := by
  obtain ⟨a, b⟩ := p
  obtain ⟨h1, h2, h3⟩ := (mem_ahead h).mp hp
  exact mem_pairs.mpr ⟨h1, h2, fun e => by rw [e] at h3; omega⟩
/-- the nets by distances and a lap -/
def netB (zs : List Str) (kvs : List (Key × V)) (lap : Int) (p : Str × Str) : Int := (placeOf kvs p.1 - placeOf kvs p.2) / lap + if p ∈ pairsAhead zs then 1 else 0
theorem netB_netP {zs : List Str} {kvs : List (Key × V)} (hn : zs.Nodup) {p : Str × Str} (hp : p ∈ pairsOf zs) : netB zs kvs zs.length p = netP zs kvs p.1 p.2 := by
  obtain ⟨a, b⟩ := p
  obtain ⟨ha, hb, hab⟩ := mem_pairs.mp hp
  have l1 := List.idxOf_lt_length_of_mem ha
  have l2 := List.idxOf_lt_length_of_mem hb
  unfold netB netP qN
  show _ + (if (a, b) ∈ pairsAhead zs then (1 : Int) else 0) = _ - (((zs.idxOf a : Nat) : Int) - ((zs.idxOf b : Nat) : Int)) / (zs.length : Int)
  by_cases h : (a, b) ∈ pairsAhead zs
  · obtain ⟨_, _, h3⟩ := (mem_ahead hn).mp h
    have hn0 : (0 : Int) < (zs.length : Int) := by omega
    have e : (((zs.idxOf a : Nat) : Int) - ((zs.idxOf b : Nat) : Int)) / (zs.length : Int) = -1 :=
      ((Int.ediv_emod_unique hn0).mpr ⟨by omega, by omega, by omega⟩ : (((zs.idxOf a : Nat) : Int) - ((zs.idxOf b : Nat) : Int)) / (zs.length : Int) = -1 ∧ (((zs.idxOf a : Nat) : Int) - ((zs.idxOf b : Nat) : Int)) % (zs.length : Int) = (zs.length : Int) + (((zs.idxOf a : Nat) : Int) - ((zs.idxOf b : Nat) : Int))).1
    rw [if_pos h, e]
    omega
  · have h3 : ¬ zs.idxOf a < zs.idxOf b := fun q => h ((mem_ahead hn).mpr ⟨ha, hb, q⟩)
    have e : (((zs.idxOf a : Nat) : Int) - ((zs.idxOf b : Nat) : Int)) / (zs.length : Int) = 0 := Int.ediv_eq_zero_of_lt (by omega) (by omega)
    rw [if_neg h, e]
    omega
end RK

namespace RK
open PySem L2
/-- the dict at e is of these nets -/
def spNetsBy : Sp := fun vs H Q _ => ∃ (n d : Addr) (zs : List Str) (kvs : List (Key × V)) (lap : Int), vs = [.ref n, .ref d, .int lap] ∧ H n = some (.lst (zs.map V.str)) ∧ H d = some (.dK kvs) ∧ (∀ z ∈ zs, valV kvs (Sum.inr z : Key) = some (.int (placeOf kvs z))) ∧ zs.Nodup ∧ zs.length ≤ 1000 ∧ 0 < lap ∧ lap.natAbs < 2 ^ 60 ∧
  ∀ e H', H e = none → H' e = some (.dT (kvP (pairsOf zs) (netB zs kvs lap))) → Same H H' → Q (.ref e) H'
def spNetsAmong : Sp := fun vs H Q _ => ∃ (n d : Addr) (zs : List Str) (kvs : List (Key × V)), vs = [.ref n, .ref d] ∧ H n = some (.lst (zs.map V.str)) ∧ H d = some (.dK kvs) ∧ (∀ z ∈ zs, valV kvs (Sum.inr z : Key) = some (.int (placeOf kvs z))) ∧ zs.Nodup ∧ zs.length ≤ 1000 ∧ 0 < zs.length ∧
  ∀ e H', H e = none → H' e = some (.dT (kvP (pairsOf zs) fun p => netP zs kvs p.1 p.2)) → Same H H' → Q (.ref e) H'
section
variable {P : Program} {w : World} {K : PySem.W.Frag} {mg : Str → Option Value} {base : Heap}
end
end RK

namespace RK
open PySem L2
section
variable {P : Program} {w : World} {K : PySem.W.Frag} {mg : Str → Option Value} {base : Heap}
def scPl1 : Scope := { kind := .function, names := [(".0", .local), ("one", .cell), ("sum", .globalImplicit), ("first", .cell), ("names", .cell), ("nets", .cell)], isGenerator := false, isCoroutine := false }
def placedG (zs : List Str) (g : Str × Str → Int) (z : Str) : Int := ((zs.idxOf z : Nat) : Int) + ((zs.filter fun y => decide (y ≠ z)).map fun y => g (z, y)).sum
def spPlacedBy : Sp := fun vs H Q _ => ∃ (n e : Addr) (zs : List Str) (kvt : List (List Key × V)) (g : Str × Str → Int), vs = [.ref n, .ref e] ∧ H n = some (.lst (zs.map V.str)) ∧ H e = some (.dT kvt) ∧ (∀ p ∈ pairsOf zs, valV kvt (kP p) = some (.int (g p))) ∧ zs.Nodup ∧ zs.length ≤ 1000 ∧
  ∀ f H', H f = none → H' f = some (.dK (kvOf zs (placedG zs g))) → Same H H' → Q (.ref f) H'
end
end RK

namespace RK
open PySem L2
/-! ### the sum of all nets -/
theorem perm_of_sub {α : Type} [DecidableEq α] : ∀ {l m : List α}, l.Nodup → (∀ x ∈ l, x ∈ m) → m.length ≤ l.length → l.Perm m
  | [], m, _, _, h => by rw [List.length_eq_zero_iff.mp (Nat.le_zero.mp h)]
  | x :: r, m, hn, hs, h => by
    have hx := hs x List.mem_cons_self
    obtain ⟨h1, h2⟩ := List.nodup_cons.mp hn
    have hl : (m.erase x).length ≤ r.length := by
      rw [List.length_erase_of_mem hx]
      rw [List.length_cons] at h
      omega
    have ih := perm_of_sub (l := r) (m := m.erase x) h2 (fun y hy => (List.mem_erase_of_ne (fun (z : y = x) => h1 (z ▸ hy))).mpr (hs y (List.mem_cons_of_mem _ hy))) hl
    exact (ih.cons x).trans (List.perm_cons_erase hx).symm
theorem mod_zero {n d : Int} (h : d % n = 0) : ∃ k, d = n * k := ⟨d / n, by have := Int.emod_add_mul_ediv d n; omega⟩
theorem mod_eq {n a b : Int} (h : (a - b) % n = 0) : a % n = b % n := by
  obtain ⟨k, e⟩ := mod_zero h
  rw [show a = b + n * k by omega, Int.add_mul_emod_self_left]
theorem eq_mod {n a b : Int} (h : a % n = b % n) : (a - b) % n = 0 := by
  rw [Int.sub_emod, h, Int.sub_self]
  rfl
theorem sum_all {n : Nat} {l : List Int} (hn : l.Nodup) (hb : ∀ x ∈ l, 0 ≤ x ∧ x < (n : Int)) (hl : l.length = n) : l.sum = (n : Int) * ((n : Int) - 1) / 2 := by
  rw [← half_sum]
  refine perm_sum (perm_of_sub hn (fun x hx => ?_) (by rw [List.length_map, List.length_range, hl]; exact Nat.le_refl _))
  obtain ⟨h1, h2⟩ := hb x hx
  exact List.mem_map.mpr ⟨x.toNat, List.mem_range.mpr (by omega), by omega⟩
theorem sum_mulc {f : Str → Int} {c : Int} : ∀ {l : List Str}, (l.map fun z => c * f z).sum = c * (l.map f).sum
  | [] => by simp
  | z :: r => by rw [List.map_cons, List.map_cons, List.sum_cons, List.sum_cons, sum_mulc, Int.mul_add]
theorem sum_congr {f g : Str → Int} {l : List Str} (h : ∀ z ∈ l, f z = g z) : (l.map f).sum = (l.map g).sum := by rw [List.map_congr_left h]
theorem sum_const {c : Int} : ∀ {l : List Str}, (l.map fun _ => c).sum = (l.length : Int) * c
  | [] => by simp
  | z :: r => by
    rw [List.map_cons, List.sum_cons, sum_const, List.length_cons]
    have : ((r.length + 1 : Nat) : Int) * c = (r.length : Int) * c + c := by rw [Int.natCast_add, Int.add_mul]; simp
    rw [this]
    omega
theorem nat_of_list' {f : Str → Int} {c : Int} : ∀ {l : List Str}, (l.map fun z => c - f z).sum = (l.length : Int) * c - (l.map f).sum
  | [] => by simp
  | z :: r => by
    rw [List.map_cons, List.map_cons, List.sum_cons, List.sum_cons, nat_of_list', List.length_cons]
    have : ((r.length + 1 : Nat) : Int) * c = (r.length : Int) * c + c := by rw [Int.natCast_add, Int.add_mul]; simp
    rw [this]
    omega
theorem even_n (n : Int) : n * (n - 1) % 2 = 0 := by
  rcases Int.emod_two_eq n with q | q
  · rw [Int.mul_emod, q]; simp
  · rw [Int.mul_emod, show (n - 1) % 2 = 0 by omega]; simp
theorem sum_q {zs ks : List Str} {kvs : List (Key × V)} (h : Sta zs ks kvs) (nd : zs.Nodup) (h0 : 0 < zs.length) {x : Str} (hx : x ∈ zs) : (zs.map fun y => qN zs kvs x y).sum = placeOf kvs x - ((zs.length : Int) - 1) := by
  have hn : (0 : Int) < (zs.length : Int) := by omega
  have e1 : ∀ y ∈ zs, (zs.length : Int) * qN zs kvs x y + (placeOf kvs x - placeOf kvs y) % (zs.length : Int) = placeOf kvs x - placeOf kvs y := fun y _ => by
    unfold qN
    have := Int.emod_add_mul_ediv (placeOf kvs x - placeOf kvs y) (zs.length : Int)
    omega
  have e2 : (zs.map fun y => (placeOf kvs x - placeOf kvs y) % (zs.length : Int)).sum = (zs.length : Int) * ((zs.length : Int) - 1) / 2 := by
    refine sum_all ?_ (fun v hv => ?_) (List.length_map _)
    · refine nodup_inj nd fun a ha b hb e => ?_
      refine rest_inj h.ok ha hb ?_
      have q := eq_mod e
      exact (mod_eq (by rw [show placeOf kvs b - placeOf kvs a = placeOf kvs x - placeOf kvs a - (placeOf kvs x - placeOf kvs b) by omega]; exact q) : placeOf kvs b % (zs.length : Int) = placeOf kvs a % (zs.length : Int)).symm
    · obtain ⟨y, _, rfl⟩ := List.mem_map.mp hv
      exact ⟨Int.emod_nonneg _ (by omega), Int.emod_lt_of_pos _ hn⟩
  have e3 := sum_congr e1
  rw [sum_add (f := fun y => (zs.length : Int) * qN zs kvs x y) (g := fun y => (placeOf kvs x - placeOf kvs y) % (zs.length : Int)), e2, sum_mulc, nat_of_list', h.sum] at e3
  have e4 := even_n (zs.length : Int)
  have e5 : (zs.length : Int) * (zs.map fun y => qN zs kvs x y).sum = (zs.length : Int) * (placeOf kvs x - ((zs.length : Int) - 1)) := by
    rw [Int.mul_sub]
    have e6 : (zs.length : Int) * (zs.map fun y => qN zs kvs x y).sum + (zs.length : Int) * ((zs.length : Int) - 1) / 2 = (zs.length : Int) * placeOf kvs x - (zs.length : Int) * ((zs.length : Int) - 1) / 2 := e3
    omega
  exact Int.eq_of_mul_eq_mul_left (by omega) e5
end RK

namespace RK
open PySem L2
/-! ### the path begun with another one -/
theorem net_self {zs : List Str} {kvs : List (Key × V)} {x : Str} : netP zs kvs x x = 0 := by
  unfold netP qN
  rw [Int.sub_self, Int.sub_self, Int.zero_ediv]
  rfl
theorem sum_net {zs ks : List Str} {kvs : List (Key × V)} (h : Sta zs ks kvs) (nd : zs.Nodup) {x : Str} (hx : x ∈ zs) : (zs.map fun y => netP zs kvs x y).sum = placeOf kvs x - ((zs.idxOf x : Nat) : Int) := by
  have h0 : 0 < zs.length := List.length_pos_of_mem hx
  have e1 := sum_q h nd h0 hx
  have e2 := sum_q (first_sta nd h0) nd h0 hx
  have e3 : ∀ y ∈ zs, qN zs (firstKv zs) x y + netP zs kvs x y = qN zs kvs x y := fun y hy => by
    have e : qN zs (firstKv zs) x y = (((zs.idxOf x : Nat) : Int) - ((zs.idxOf y : Nat) : Int)) / (zs.length : Int) := by
      unfold qN
      rw [first_kv nd, place_kv hx, place_kv hy]
    unfold netP
    omega
  have e4 := sum_congr e3
  rw [sum_add (f := fun y => qN zs (firstKv zs) x y) (g := fun y => netP zs kvs x y), e1, e2, first_kv nd, place_kv hx] at e4
  omega
theorem filt_sum {f : Str → Int} {x : Str} (h : f x = 0) : ∀ {l : List Str}, ((l.filter fun y => decide (y ≠ x)).map f).sum = (l.map f).sum
  | [] => rfl
  | y :: r => by
    rw [List.map_cons, List.sum_cons, ← filt_sum h (l := r), List.filter_cons]
    by_cases e : y = x
    · subst e
      rw [if_neg (by simp), h, Int.zero_add]
    · rw [if_pos (decide_eq_true e), List.map_cons, List.sum_cons]
def netF (zs : List Str) (kvs : List (Key × V)) (p : Str × Str) : Int := netP zs kvs p.1 p.2
theorem placed_row {zs ks row : List Str} {kvs : List (Key × V)} (h : Sta zs ks kvs) (nd : zs.Nodup) (hp : row.Perm zs) {x : Str} (hx : x ∈ zs) : placedG row (netF zs kvs) x = ((row.idxOf x : Nat) : Int) + placeOf kvs x - ((zs.idxOf x : Nat) : Int) := by
  unfold placedG netF
  rw [filt_sum (f := fun y => netP zs kvs x y) net_self, perm_sum (hp.map fun y => netP zs kvs x y), sum_net h nd hx]
  omega
theorem idx_app {l m : List Str} {x : Str} (h : x ∈ l) : (l ++ m).idxOf x = l.idxOf x := by rw [List.idxOf_append, if_pos h]
theorem idx_app2 {l m : List Str} {x : Str} (h : x ∉ l) : (l ++ m).idxOf x = l.length + m.idxOf x := by rw [List.idxOf_append, if_neg h, Nat.add_comm]
theorem div_shift {n d k : Int} (hn : n ≠ 0) : (d + n * k) / n = d / n + k := by rw [Int.add_mul_ediv_left _ _ hn]
end RK

/-! sum(d.values()) of a dict of integers -/
namespace L2
open PySem PySem.Spec PyProof.Rows
theorem preSum_getD : ∀ (l : List Int), preSum (fun i => l.getD i 0) l.length = l.sum
  | [] => rfl
  | x :: r => by
    rw [List.length_cons, PySem.W.kdu_shift, List.sum_cons, ← preSum_getD r]
    rfl
theorem sum_src {prog : Program} {w : World} {A : Around} {E : Value → Shared → Prop} {s : Shared} {T : String} {r d : Addr} {n : Nat} {P : Nat → Value → Prop} {OK : Heap → Prop} {Q : Value → Shared → Prop}
    (K : PySem.W.KdlSrc prog w T r d n P OK) (hh : A.handled = none) (hok : OK s.heap) (val : Nat → Int) (hval : ∀ (i : Nat) (v : Value), P i v → ∃ t : Tok, v = Value.int (val i) t)
    (h : ∀ (h' : Heap) (tk : Nat) (t' : Tok), (∀ b o, s.heap.get? b = some o → h'.get? b = some o) → Q (.int (preSum val n) t') { s with heap := h', toks := tk }) :
    wpAny (model prog w) A (call (.builtin "sum") [.ref r]) Q E s := by
  refine call_sum_walkAnyS ?_
  obtain ⟨oI, St, hit, W, st⟩ := K.iter A.in1 s hh hok
  refine hit _ _ ⟨s.heap.objs.size, _, _, _, n, P, _, val, rfl, W.toS, st, fun b hb => ?_, hval, fun s' t' hm => ?_⟩
  · show b < (s.heap.push oI).objs.size
    rw [Heap.size_push]
    rcases List.mem_cons.mp hb with e | hb
    · rw [e]; exact Nat.lt_succ_self _
    · rw [List.mem_singleton.mp hb]; exact Nat.lt_succ_of_lt (K.there _ hok).2
  · have hk : ∀ b o, s.heap.get? b = some o → s'.heap.get? b = some o := fun b o e =>
      hm.heap b o (fun hI => absurd (Heap.lt_size e) (by rw [List.mem_singleton.mp hI]; exact Nat.lt_irrefl _)) (Heap.get?_push_of_some _ e)
    rw [Moved.eq_with hm]
    exact h s'.heap s'.toks t' hk
/-- sum(o.values()) -/
def tSumVals (td : TE) : TE := fun σ H Q => td σ H fun x H1 => ∃ (a : Addr) (kvs : List (Key × V)) (ns : List Int), x = V.ref a ∧ H1 a = some (.dK kvs) ∧ kvs.map (·.2) = ns.map V.int ∧ Q (.int ns.sum) H1
section
variable {X : Cx} {o : Expr} {p pos apos mpos : Pos} {td : TE}
theorem pe_sumVals (hc : X.calm = true) (hg : Gl X "sum") (hm : X.mg "sum" = none) (hd : PE X o td) (hbase : attributeBase o "values" X.env (eval o X.env) = eval o X.env := by rfl) (hline : (apos.endLine == mpos.line) = true := by rfl)
    (hse : starEach [Expr.Call (.Attribute o "values" apos) [] [] mpos] X.env = [(false, eval (Expr.Call (.Attribute o "values" apos) [] [] mpos) X.env)] := by rfl) :
    PE X (.Call (.Name "sum" p) [.Call (.Attribute o "values" apos) [] [] mpos] [] pos) (tSumVals td) := by
  refine ⟨fun pins s σ H Q I h => ?_⟩
  refine wpAny_Call_Name_kw (ld_blt I hg hm (u := .builtin "sum") (by first | rfl | decide +kernel) ?_ (by first | decide +kernel | decide) (by first | decide +kernel | decide))
  rw [hse]
  refine PySem.callWith_builtin1 (wpAny_Call_method0_late hbase hline (thn (hd.run pins s σ H _ I h) fun v s1 ⟨x, H1, I1, r1, a, kvs, is, ex, ha, hv, q⟩ => ?_))
  subst ex
  obtain rfl : v = Value.ref a := r1
  obtain ⟨_, hsys, vs, rel, dof⟩ := dk_of I1.hok ha
  obtain ⟨ep, dat⟩ := dof.dictAt
  have dat' := dat
  obtain ⟨ob, es, ho, ex, hdat, hko, hpr, hnd⟩ := dat'
  refine ⟨"dict", "dict.values", F.plainAttrs_dict, F.slot_dict_values, F.type_dict_values, ⟨ob, ho, ex.1⟩, fun b e => ?_, Calls.callWith_builtin rfl (PySem.evalArgs_none ?_)⟩
  · cases e
    exact ⟨ob, ho, ex.2.1⟩
  refine call_meetsIn F.slot_dict_values ⟨ob, ho, ex.1⟩ F.entry_dict_values (F.args_dict_values_1 _) (meets_dict_values (mixKind X.prog X.w) a hsys) ⟨⟨vs, dof⟩, ?_⟩
  have k1 : ∀ b u, s1.heap.get? b = some u → (s1.heap.push { cls := .type "dict_values", data := .fields #[.ref a] }).get? b = some u := fun b u e => Heap.get?_push_of_some _ e
  have dat1 : (s1.heap.push { cls := .type "dict_values", data := .fields #[.ref a] }).DictAt (mixKind X.prog X.w) a vs ep := dat.keep k1
  have hlv : vs.length = is.length := by
    have e1 := congrArg List.length hv
    rw [List.length_map, List.length_map] at e1
    rw [← e1]
    exact (KV.length rel).symm
  have hval : ∀ (i : Nat) (v : Value), (∃ k, vs[i]? = some (k, v)) → ∃ t, v = Value.int (is.getD i 0) t := fun i v ⟨k, hk⟩ => by
    obtain ⟨x, h1, h2⟩ := KV.at' rel hk
    have e1 : (kvs.map (·.2))[i]? = some x := by rw [List.getElem?_map, h1] <;> rfl
    rw [hv, List.getElem?_map] at e1
    obtain ⟨j, hj, e2⟩ := Option.map_eq_some_iff.mp e1
    subst e2
    obtain ⟨t, e3⟩ := h2
    refine ⟨t, ?_⟩
    rw [e3, List.getD_eq_getElem?_getD, hj] <;> rfl
  refine sum_src (s := { s1 with heap := s1.heap.push { cls := .type "dict_values", data := .fields #[.ref a] } }) (PySem.W.kdl_values (r := s1.heap.objs.size) (d := a) (knd := mixKind X.prog X.w) (kvs := vs) (ep := ep)) (I.ok.hd hc) ⟨⟨_, Heap.get?_push_size _ rfl, rfl, rfl⟩, dat1⟩ (fun i => is.getD i 0) hval fun h' tk t' hk => ?_
  have e : preSum (fun i => is.getD i 0) vs.length = is.sum := by rw [hlv]; exact preSum_getD is
  rw [e]
  exact ⟨.int is.sum, H1, I1.kept (t' := tk) fun b ob e => hk b ob (k1 b ob e), ⟨_, rfl⟩, q⟩
end
end L2

namespace RK
open PySem L2
/-! ### net numbers, numbers made and suffered: the program's side -/
inductive Cl | no | sum (s : Int) | tog (a b : Str)
def movG (zs : List Str) (g : Str → Int) (z : Str) : Int := ((zs.idxOf z : Nat) : Int) + g z
def gainG (zs : List Str) (kvs : List (Key × V)) (z : Str) : Int := placeOf kvs z - ((zs.idxOf z : Nat) : Int)
def sameRest (zs : List Str) (g : Str → Int) (p : Str × Str) : Bool := decide ((movG zs g p.1 - movG zs g p.2) % (zs.length : Int) = 0)
def clashN (zs : List Str) (g : Str → Int) : Cl := if (zs.map g).sum ≠ 0 then .sum (zs.map g).sum else match (pairsAhead zs).find? (sameRest zs g) with
  | none => .no
  | some p => .tog p.1 p.2
def ClAt (H : Hp) (c : Cl) (v : V) : Prop := match c with
  | .no => v = .non
  | .sum s => ∃ t, v = .ref t ∧ H t = some (.tup [.str "sum", .int s])
  | .tog a b => ∃ t, v = .ref t ∧ H t = some (.tup [.str "together", .str a, .str b])
theorem ClAt.same {H H' : Hp} {c : Cl} {v : V} (h : ClAt H c v) (s : Same H H') : ClAt H' c v := by
  cases c with
  | no => exact h
  | sum n => obtain ⟨t, e, h⟩ := h; exact ⟨t, e, s _ _ h⟩
  | tog a b => obtain ⟨t, e, h⟩ := h; exact ⟨t, e, s _ _ h⟩
theorem find_at {α : Type} {p : α → Bool} : ∀ {l : List α} {i : Nat} {x : α}, l[i]? = some x → p x = true → (∀ y ∈ l.take i, p y = false) → l.find? p = some x
  | [], _, _, h, _, _ => by simp at h
  | y :: r, 0, x, h, hp, _ => by
    cases (show some y = some x from h)
    rw [List.find?_cons, hp]
  | y :: r, i + 1, x, h, hp, hb => by
    rw [List.find?_cons, hb y List.mem_cons_self]
    exact find_at (l := r) (i := i) h hp fun z hz => hb z (List.mem_cons_of_mem _ hz)
def posOf (i : Int) : Int := if (0 : Int) > i then 0 else i
def madeG (zs : List Str) (kvs : List (Key × V)) (z : Str) : Int := ((zs.filter fun y => decide (y ≠ z)).map fun y => posOf (netP zs kvs z y)).sum
def suffG (zs : List Str) (kvs : List (Key × V)) (z : Str) : Int := ((zs.filter fun y => decide (y ≠ z)).map fun y => posOf (netP zs kvs y z)).sum
def spOver (f : List Str → (Str → Int) → Str → Int) : Sp := fun vs H Q _ => ∃ (n d : Addr) (zs : List Str) (kvs : List (Key × V)), vs = [.ref n, .ref d] ∧ H n = some (.lst (zs.map V.str)) ∧ H d = some (.dK kvs) ∧ (∀ z ∈ zs, valV kvs (Sum.inr z : Key) = some (.int (placeOf kvs z))) ∧ zs.Nodup ∧ zs.length ≤ 1000 ∧
  ∀ e H', H e = none → H' e = some (.dK (kvOf zs (f zs (placeOf kvs)))) → Same H H' → Q (.ref e) H'
def spAmong (f : List Str → List (Key × V) → Str → Int) : Sp := fun vs H Q _ => ∃ (n d : Addr) (zs : List Str) (kvs : List (Key × V)), vs = [.ref n, .ref d] ∧ H n = some (.lst (zs.map V.str)) ∧ H d = some (.dK kvs) ∧ (∀ z ∈ zs, valV kvs (Sum.inr z : Key) = some (.int (placeOf kvs z))) ∧ zs.Nodup ∧ 0 < zs.length ∧ zs.length ≤ 1000 ∧
  ∀ e H', H e = none → H' e = some (.dK (kvOf zs (f zs kvs))) → Same H H' → Q (.ref e) H'
def spClash : Sp := fun vs H Q _ => ∃ (n d : Addr) (zs : List Str) (kvs : List (Key × V)), vs = [.ref n, .ref d] ∧ H n = some (.lst (zs.map V.str)) ∧ H d = some (.dK kvs) ∧ (∀ z ∈ zs, valV kvs (Sum.inr z : Key) = some (.int (placeOf kvs z))) ∧ zs.Nodup ∧ 0 < zs.length ∧ zs.length ≤ 1000 ∧
  ∀ v H', ClAt H' (clashN zs (placeOf kvs)) v → Same H H' → Q v H'
def spNeedNets (K : PySem.W.Frag) (CN : Addr) : Sp := fun vs H Q E => ∃ (n : Addr) (zs : List Str) (v : V) (k : Kd), vs = [.ref n, v] ∧ H n = some (.lst (zs.map V.str)) ∧ zs.length ≤ 1000 ∧ Th K H v k ∧
  (k.isDict = false → ∀ d H', Same H H' → H' d = some (.xd [("nets", v)]) → E (.ref CN) (some d) H') ∧
  (k.isDict = true → ∃ dd kvs, v = .ref dd ∧ H dd = some (.dK kvs) ∧ (∀ kv ∈ kvs, ∃ kx, Th K H kv.2 kx) ∧
    (dictB zs kvs = false → ∀ d H', Same H H' → H' d = some (.xd [("nets", v)]) → E (.ref CN) (some d) H') ∧ (dictB zs kvs = true → ∀ H', Same H H' → Q .non H'))
/-- what is told of a path and a stand -/
def spNum (K : PySem.W.Frag) (C CP CS : Addr) (f : List Str → List (Key × V) → Str → Int) : Sp := fun vs H Q E => ∃ v u, vs = [v, u] ∧
  ((∃ k, Th K H v k ∧ ∀ d H', Same H H' → H' d = some (.xd [("thing", v)]) → E (.ref CP) (some d) H') ∨
   ∃ p t zs ku, v = .ref p ∧ PathAt C H p t zs ∧ zs.Nodup ∧ 0 < zs.length ∧ zs.length ≤ 1000 ∧ Th K H u ku ∧
     (ku.isDict = false → ∀ d H', Same H H' → H' d = some (.xd [("stand", u)]) → E (.ref CS) (some d) H') ∧
     (ku.isDict = true → ∃ dd kvs, u = .ref dd ∧ H dd = some (.dK kvs) ∧ (∀ kv ∈ kvs, ∃ kx, Th K H kv.2 kx) ∧
       (standB zs kvs = false → ∀ d H', Same H H' → H' d = some (.xd [("stand", u)]) → E (.ref CS) (some d) H') ∧
       (standB zs kvs = true → ∀ e H', H e = none → H' e = some (.dK (kvOf zs (f zs kvs))) → Same H H' → Q (.ref e) H')))
/-- what is told of a path and nets -/
def spOfNets (K : PySem.W.Frag) (C CP CN : Addr) (R : Hp → Hp → List Str → (Str → Int) → V → Prop) : Sp := fun vs H Q E => ∃ v u, vs = [v, u] ∧
  ((∃ k, Th K H v k ∧ ∀ d H', Same H H' → H' d = some (.xd [("thing", v)]) → E (.ref CP) (some d) H') ∨
   ∃ p t zs ku, v = .ref p ∧ PathAt C H p t zs ∧ zs.Nodup ∧ 0 < zs.length ∧ zs.length ≤ 1000 ∧ Th K H u ku ∧
     (ku.isDict = false → ∀ d H', Same H H' → H' d = some (.xd [("nets", u)]) → E (.ref CN) (some d) H') ∧
     (ku.isDict = true → ∃ dd kvs, u = .ref dd ∧ H dd = some (.dK kvs) ∧ (∀ kv ∈ kvs, ∃ kx, Th K H kv.2 kx) ∧
       (dictB zs kvs = false → ∀ d H', Same H H' → H' d = some (.xd [("nets", u)]) → E (.ref CN) (some d) H') ∧
       (dictB zs kvs = true → ∀ x H', R H H' zs (placeOf kvs) x → Same H H' → Q x H')))
def RStand (H H' : Hp) (zs : List Str) (g : Str → Int) (x : V) : Prop := match clashN zs g with
  | .no => ∃ e, x = .ref e ∧ H e = none ∧ H' e = some (.dK (kvOf zs (movG zs g)))
  | _ => x = .non
def RClash (_H H' : Hp) (zs : List Str) (g : Str → Int) (x : V) : Prop := ClAt H' (clashN zs g) x
section
variable {P : Program} {w : World} {K : PySem.W.Frag} {mg : Str → Option Value} {base : Heap} {C CB fB CP CS CN fNe : Addr}
def scmadeAmong1 : Scope := { kind := .function, names := [(".0", .local), ("one", .cell), ("sum", .globalImplicit), ("names", .cell), ("nets", .cell)], isGenerator := false, isCoroutine := false }
def scsuffAmong1 : Scope := { kind := .function, names := [(".0", .local), ("one", .cell), ("sum", .globalImplicit), ("names", .cell), ("nets", .cell)], isGenerator := false, isCoroutine := false }
end
end RK

namespace RK
open PySem L2
section
variable {P : Program} {w : World} {K : PySem.W.Frag} {mg : Str → Option Value} {base : Heap} {C CB fB CP CS CN fNe : Addr}
end
end RK

namespace RK
open PySem L2
def spLoose0 (K : PySem.W.Frag) : Sp := fun vs H Q _ => ∃ (a : Addr) (v : V) (k : Kd), vs = [.ref a, v] ∧ Th K H v k ∧ k.isSeq = false ∧ ∀ H', Same H H' → Q v H'
def spLoose1 (K : PySem.W.Frag) : Sp := fun vs H Q _ => ∃ (a l : Addr) (xs : List V) (m : Nat), vs = [.ref a, .ref l] ∧ a ≠ l ∧ SpAt H a m ∧ m < 3000000000 ∧ H l = some (.lst xs) ∧ xs.length ≤ 1000 ∧ (∀ x ∈ xs, ∃ k, Th K H x k ∧ k.isSeq = false) ∧
  ∀ p k H', SeqAt2 H' p xs k → p ≠ a → SpAt H' a (m + 1) → But a H H' → Q (.ref p) H'
section
variable {P : Program} {w : World} {K : PySem.W.Frag} {mg : Str → Option Value} {base : Heap}
end
end RK

namespace RK
open PySem L2
/-! ### small pieces of the law -/
def spQMade (C : Addr) : Sp := fun vs H Q _ => ∃ (a n : Addr) (zs : List Str) (m : Nat), vs = [.ref a, .ref n] ∧ a ≠ n ∧ SpAt H a m ∧ m < 2000000000 ∧ H n = some (.lst (zs.map V.str)) ∧ zs.Nodup ∧ Nm zs ∧ (∀ z ∈ zs, z.length ≤ 1000) ∧ 2 ≤ zs.length ∧ zs.length ≤ 1000 ∧
  ∀ p t H', PathAt C H' p t zs → p ≠ a → t ≠ a → SpAt H' a (m + 1) → But a H H' → Q (.ref p) H'
def spQNet : Sp := fun vs H Q _ => ∃ (n d : Addr) (zs : List Str) (kvs : List (Key × V)) (a b : Str), vs = [.ref n, .ref d, .str a, .str b] ∧ H n = some (.lst (zs.map V.str)) ∧ H d = some (.dK kvs) ∧ (∀ z ∈ zs, valV kvs (Sum.inr z : Key) = some (.int (placeOf kvs z))) ∧ a ∈ zs ∧ b ∈ zs ∧ zs.length ≤ 1000 ∧ ∀ H', Same H H' → Q (.int (netP zs kvs a b)) H'
def spQTable : Sp := fun vs H Q _ => ∃ (n d : Addr) (zs : List Str) (kvs : List (Key × V)), vs = [.ref n, .ref d] ∧ H n = some (.lst (zs.map V.str)) ∧ H d = some (.dK kvs) ∧ (∀ z ∈ zs, valV kvs (Sum.inr z : Key) = some (.int (placeOf kvs z))) ∧ zs.Nodup ∧ zs.length ≤ 1000 ∧
  ∀ e H', H e = none → H' e = some (.dT (kvP (pairsOf zs) (netF zs kvs))) → Same H H' → Q (.ref e) H'
def spQRest : Sp := fun vs H Q _ => ∃ (n : Addr) (zs : List Str) (p : Int), vs = [.ref n, .int p] ∧ H n = some (.lst (zs.map V.str)) ∧ 0 < zs.length ∧ Q (.int (p % (zs.length : Int))) H
def spQAhead : Sp := fun vs H Q _ => ∃ (n d : Addr) (zs : List Str) (kvs : List (Key × V)) (z : Str), vs = [.ref n, .ref d, .str z] ∧ H n = some (.lst (zs.map V.str)) ∧ H d = some (.dK kvs) ∧ Sta zs zs kvs ∧ z ∈ zs ∧ 0 < zs.length ∧ zs.length ≤ 1000 ∧ ∀ H', Same H H' → Q (.str ((nextOf zs kvs z).getD z)) H'
section
variable {P : Program} {w : World} {K : PySem.W.Frag} {mg : Str → Option Value} {base : Heap} {C CB fB : Addr}
end
end RK

namespace RK
open PySem L2
theorem from_app {zs : List Str} {b : Str} : ∀ {r : List Str}, pairsFrom zs (r ++ [b]) = pairsFrom zs r ++ (zs.filter fun y => decide (b ≠ y)).map fun y => (b, y)
  | [] => by show _ ++ [] = [] ++ _; rw [List.append_nil, List.nil_append]
  | a :: r => by
    show _ ++ pairsFrom zs (r ++ [b]) = (_ ++ pairsFrom zs r) ++ _
    rw [from_app (r := r), List.append_assoc]
section
variable {P : Program} {w : World} {K : PySem.W.Frag} {mg : Str → Option Value} {base : Heap} {C CB fB : Addr}
end
end RK

namespace RK
open PySem L2
theorem cut_init {xs : List V} {v : V} : cutV (xs ++ [v]) none (some (-1)) = xs := by
  unfold cutV
  rw [HT.sIx_none]
  have e : HT.sIx (xs ++ [v]).length (xs ++ [v]).length (some (-1)) = xs.length := by
    show (if (-1 : Int) < 0 then ((-1 : Int) + ((xs ++ [v]).length : Int)).toNat else min (-1 : Int).toNat (xs ++ [v]).length) = xs.length
    rw [if_pos (by decide), List.length_append]
    simp only [List.length_cons, List.length_nil]
    omega
  rw [e, List.drop_zero, Nat.sub_zero, List.take_append_of_le_length (Nat.le_refl _), List.take_length]
theorem ix_last {ls : List Int} {x : Int} : ixN (ls.map V.int ++ [V.int x]).length (-1) = some ls.length := by
  unfold ixN
  rw [if_neg (by decide), List.length_append, List.length_map, if_pos (by simp only [List.length_cons, List.length_nil]; omega)]
  congr 1
  simp only [List.length_cons, List.length_nil]
  omega
theorem set_last {ls : List Int} {x y : V} : (ls.map V.int ++ [x]).set ls.length y = ls.map V.int ++ [y] := by
  rw [List.set_append_right _ _ (by rw [List.length_map]; exact Nat.le_refl _), List.length_map, Nat.sub_self]
  rfl
section
variable {P : Program} {w : World} {K : PySem.W.Frag} {mg : Str → Option Value} {base : Heap}
end
end RK

namespace RK
open PySem L2
/-! ### dicts of numbers handed in another order; what the law itself finds wrong with nets -/
def spHandK : Sp := fun vs H Q _ => ∃ (a d : Addr) (ks : List Str) (g : Str → Int) (m : Nat), vs = [.ref a, .ref d] ∧ a ≠ d ∧ SpAt H a m ∧ m < 1000000000 ∧ H d = some (.dK (kvOf ks g)) ∧ ks.Nodup ∧ ks.length ≤ 1000 ∧
  ∀ e ks' H', H e = none → H' e = some (.dK (kvOf ks' g)) → ks'.Perm ks → e ≠ a → SpAt H' a (m + 1000) → But a H H' → Q (.ref e) H'
def spClashL : Sp := fun vs H Q _ => ∃ (n d : Addr) (zs : List Str) (g : Str → Int), vs = [.ref n, .ref d] ∧ H n = some (.lst (zs.map V.str)) ∧ H d = some (.dK (kvOf zs g)) ∧ zs.Nodup ∧ 0 < zs.length ∧ zs.length ≤ 1000 ∧
  ∀ v H', ClAt H' (clashN zs g) v → Same H H' → Q v H'
theorem clash_congr {zs : List Str} {g g' : Str → Int} (hn : zs.Nodup) (h : ∀ z ∈ zs, g z = g' z) : clashN zs g = clashN zs g' := by
  unfold clashN
  rw [List.map_congr_left h]
  have e : (pairsAhead zs).find? (sameRest zs g) = (pairsAhead zs).find? (sameRest zs g') := find_congr fun p hp => by
    obtain ⟨h1, h2, _⟩ := mem_pairs.mp (show (p.1, p.2) ∈ pairsOf zs from ahead_pairs hn hp)
    unfold sameRest movG
    rw [h _ h1, h _ h2]
  rw [e]
theorem same_rest {zs : List Str} {g : Str → Int} {a b : Str} : sameRest zs g (a, b) = decide (movG zs g a % (zs.length : Int) = movG zs g b % (zs.length : Int)) := by
  unfold sameRest
  exact decide_eq_decide.mpr ⟨mod_eq, eq_mod⟩
section
variable {P : Program} {w : World} {K : PySem.W.Frag} {mg : Str → Option Value} {base : Heap}
end
end RK

namespace RK
open PySem L2
/-! ### dict([(name, f(name)) for name in names]), once for all -/
def kvV (ks : List Str) (f : Str → V) : List (Key × V) := ks.map fun u => ((Sum.inr u : Key), f u)
theorem kvV_int {ks : List Str} {g : Str → Int} : kvV ks (fun z => .int (g z)) = kvOf ks g := rfl
theorem kvV_len {ks : List Str} {f : Str → V} : (kvV ks f).length = ks.length := List.length_map _
theorem kvV_keys {ks : List Str} {f : Str → V} : (kvV ks f).map (·.1) = ks.map fun z => (Sum.inr z : Key) := by
  unfold kvV
  rw [List.map_map]
  rfl
theorem kvV_app {l m : List Str} {f : Str → V} : kvV (l ++ m) f = kvV l f ++ kvV m f := List.map_append
theorem kvV_val {f : Str → V} {z : Str} : ∀ {ks : List Str}, z ∈ ks → valV (kvV ks f) (Sum.inr z : Key) = some (f z)
  | [], h => nomatch h
  | y :: r, h => by
    unfold kvV
    rw [List.map_cons]
    by_cases e : y = z
    · subst e; rw [valV_pos rfl]
    · rw [valV_neg (fun t => e (Sum.inr.inj t))]
      exact kvV_val ((List.mem_cons.mp h).resolve_left fun t => e t.symm)
theorem merge_kvV {ks : List Str} {f : Str → V} (h : ks.Nodup) : mergeK [] (kvV ks f) = kvV ks f := merge_self (by rw [kvV_keys]; exact nodup_keys h)
theorem pairs_snoc {G G2 : Hp} {D U : Addr} {ts : List Addr} {l : List Str} {z : Str} {f : Str → V} (h : Paired (fun (t : Addr) (kv : Key × V) => t ≠ D ∧ G t = some (.tup [kV kv.1, kv.2])) ts (kvV l f)) (s : ∀ b o, b ≠ D → G b = some o → G2 b = some o) (hU : U ≠ D) (e : G2 U = some (.tup [.str z, f z])) :
    Paired (fun (t : Addr) (kv : Key × V) => t ≠ D ∧ G2 t = some (.tup [kV kv.1, kv.2])) (ts ++ [U]) (kvV (l ++ [z]) f) := by
  rw [kvV_app]
  exact Paired.snoc (Paired.mono (fun t kv h => ⟨h.1, s _ _ h.1 h.2⟩) h) ⟨hU, e⟩
theorem st_tup {t : TA} {σ : St} {H : Hp} {Q : VK} (h : t σ H fun xs H1 => xs.length ≤ sizeLine ∧ ∀ p, H1 p = none → Q (.ref p) (upd H1 p (.tup xs))) : tTup t σ H Q := h
section
variable {K : PySem.W.Frag} {n D : Addr} {zs : List Str} {i : Nat} {vs : List Nat} {tv : TE} {σ : St} {H1 : Hp} {Qd : Hp → Prop} {f : Str → V}
theorem dictA_it (hn : H1 n = some (.lst (zs.map V.str))) (hD : H1 D = none) (hl : zs.length ≤ 1000)
    (hw : ∀ x, wipe ((wipe σ vs).set i (some x)) vs = wipe σ vs) (hr : ∀ x H (Q : VK), Q x H → tVar i ((wipe σ vs).set i (some x)) H Q)
    (hv : ∀ z ∈ zs, ∀ G (Q : VK), Same H1 G → (∀ G', Same G G' → Q (f z) G') → tv ((wipe σ vs).set i (some (.str z))) G Q)
    (hd : ∀ G ts, Same H1 G → G D = some (.lst (ts.map V.ref)) → Paired (fun (t : Addr) (kv : Key × V) => G t = some (.tup [kV kv.1, kv.2])) ts (kvV zs f) → Qd G) :
    ∃ W : Nat → Nat → Hp → Prop, (∃ m, W 0 m (upd H1 D (.lst []))) ∧ ∀ j m H, W j m H →
      ((Itl K n).stop j H ∧ Qd H) ∨ ((Itl K n).go j H ∧ ∃ Nx : Hp → Prop, (∀ H', Nx H' → ∃ m', m' < m ∧ W (j + 1) m' H') ∧ ∀ x H', (Itl K n).yld j H x H' → gName i x (wipe σ vs) H' fun σ2 H2 => wipe σ2 vs = wipe σ vs ∧ tYes σ2 H2 fun b H3 =>
        if b = true then tTup (tCons (tVar i) (tCons tv tNil)) σ2 H3 fun y H4 => ∃ acc, H4 D = some (.lst acc) ∧ acc.length < sizeLine ∧ Nx (upd H4 D (.lst (acc ++ [y]))) else Nx H3) := by
  refine lc_it (walk_list (K := K) (a := n) (xs := zs.map V.str)) (fun j G => Same H1 G ∧ ∃ ts : List Addr, G D = some (.lst (ts.map V.ref)) ∧ Paired (fun (t : Addr) (kv : Key × V) => t ≠ D ∧ G t = some (.tup [kV kv.1, kv.2])) ts (kvV (zs.take j) f)) ⟨same_upd hD, [], upd_same, .nil⟩ (fun j G _ p => SqL.of (p.1 _ _ hn)) ?_ ?_
  · rintro j x G1 G2 hj ⟨sm, ts, hacc, hpr⟩ ⟨rfl, hx⟩
    obtain ⟨z, hz, hzm, rfl⟩ := name_at hx
    refine ⟨hw _, tyes ?_⟩
    refine st_tup (st_cons (hr _ _ _ (st_cons ?_)))
    refine hv z hzm _ _ sm fun G3 s3 => st_nil ?_
    refine ⟨by show 2 ≤ sizeLine; decide, fun U hU => ?_⟩
    generalize hE : upd G3 U _ = G4
    have s4 : Same G3 G4 := hE ▸ same_upd hU
    have eU := congrFun hE.symm U
    rw [upd_same] at eU
    clear hE
    have s24 := s3.trans s4
    have hUD : U ≠ D := Ne.symm (ne_of_none (s3 _ _ hacc) hU)
    have htl : ts.length = (zs.take j).length := by rw [Paired.length hpr, kvV_len]
    refine ⟨_, s24 _ _ hacc, ?_, fun b o hb => ?_, ts ++ [U], ?_, ?_⟩
    · rw [List.length_map, htl, List.length_take]
      exact Nat.lt_of_le_of_lt (Nat.le_trans (Nat.min_le_right _ _) hl) (by decide)
    · rw [upd_ne (ne_of_none hb hD)]
      exact s24 _ _ (sm _ _ hb)
    · rw [upd_same, List.map_append]
      rfl
    · rw [take_more hz]
      exact pairs_snoc hpr (fun b o hb e => by rw [upd_ne hb]; exact s24 _ _ e) hUD (by rw [upd_ne hUD]; exact eU)
  · rintro G ⟨sm, ts, hacc, hpr⟩
    rw [List.length_map, List.take_length] at hpr
    exact hd G ts sm hacc (Paired.mono (fun _ _ h => h.2) hpr)
theorem dictE_it {r : Nat} (hn : H1 n = some (.lst (zs.map V.str))) (hnd : zs.Nodup) (hD : H1 D = none) (hl : zs.length ≤ 1000)
    (hw : ∀ x y, wipe (((wipe σ vs).set r (some x)).set i (some y)) vs = wipe σ vs) (hr : ∀ x y H (Q : VK), Q y H → tVar i (((wipe σ vs).set r (some x)).set i (some y)) H Q)
    (hv : ∀ z ∈ zs, ∀ G (Q : VK), Same H1 G → (∀ G', Same G G' → Q (f z) G') → tv (((wipe σ vs).set r (some (.int (zs.idxOf z : Nat)))).set i (some (.str z))) G Q)
    (hd : ∀ G ts, Same H1 G → G D = some (.lst (ts.map V.ref)) → Paired (fun (t : Addr) (kv : Key × V) => G t = some (.tup [kV kv.1, kv.2])) ts (kvV zs f) → Qd G) :
    ∃ W : Nat → Nat → Hp → Prop, (∃ m, W 0 m (upd H1 D (.lst []))) ∧ ∀ j m H, W j m H →
      ((Ite K n).stop j H ∧ Qd H) ∨ ((Ite K n).go j H ∧ ∃ Nx : Hp → Prop, (∀ H', Nx H' → ∃ m', m' < m ∧ W (j + 1) m' H') ∧ ∀ x H', (Ite K n).yld j H x H' → gTup K 2 (gCons (gName r) (gCons (gName i) gNil)) x (wipe σ vs) H' fun σ2 H2 => wipe σ2 vs = wipe σ vs ∧ tYes σ2 H2 fun b H3 =>
        if b = true then tTup (tCons (tVar i) (tCons tv tNil)) σ2 H3 fun y H4 => ∃ acc, H4 D = some (.lst acc) ∧ acc.length < sizeLine ∧ Nx (upd H4 D (.lst (acc ++ [y]))) else Nx H3) := by
  refine lc_it (walk_enum (K := K) (a := n) (xs := zs.map V.str)) (fun j G => Same H1 G ∧ ∃ ts : List Addr, G D = some (.lst (ts.map V.ref)) ∧ Paired (fun (t : Addr) (kv : Key × V) => t ≠ D ∧ G t = some (.tup [kV kv.1, kv.2])) ts (kvV (zs.take j) f)) ⟨same_upd hD, [], upd_same, .nil⟩ (fun j G _ p => SqL.of (p.1 _ _ hn)) ?_ ?_
  · rintro j x G0 G2 hj ⟨sm0, ts, hacc0, hpr0⟩ ⟨T, x1, y, rfl, hT, rfl, hx1, hy⟩
    cases hx1
    replace hy : (zs.map V.str)[j]? = some y := hy
    obtain ⟨z, hz, hzm, rfl⟩ := name_at hy
    have hjz : j < zs.length := (List.getElem?_eq_some_iff.mp hz).1
    have hix : zs.idxOf z = j := by
      have e := (List.getElem?_eq_some_iff.mp hz).2
      rw [← e]
      exact hnd.idxOf_getElem j hjz
    generalize hE : upd G0 T _ = G1
    have sT : Same G0 G1 := hE ▸ same_upd hT
    have eT := congrFun hE.symm T
    rw [upd_same] at eT
    clear hE
    have sm := sm0.trans sT
    have hacc := sT _ _ hacc0
    have hpr := Paired.mono (fun (t : Addr) (kv : Key × V) (h : t ≠ D ∧ G0 t = some (.tup [kV kv.1, kv.2])) => (⟨h.1, sT _ _ h.2⟩ : t ≠ D ∧ G1 t = some (.tup [kV kv.1, kv.2]))) hpr0
    refine ⟨T, _, rfl, SqT.of eT, rfl, _, _, rfl, _, _, rfl, rfl, hw _ _, tyes ?_⟩
    have hv' := hv z hzm
    rw [hix] at hv'
    refine st_tup (st_cons (hr _ _ _ _ (st_cons ?_)))
    refine hv' _ _ sm fun G3 s3 => st_nil ?_
    refine ⟨by show 2 ≤ sizeLine; decide, fun U hU => ?_⟩
    generalize hE : upd G3 U _ = G4
    have s4 : Same G3 G4 := hE ▸ same_upd hU
    have eU := congrFun hE.symm U
    rw [upd_same] at eU
    clear hE
    have s24 := s3.trans s4
    have hUD : U ≠ D := Ne.symm (ne_of_none (s3 _ _ hacc) hU)
    have htl : ts.length = (zs.take j).length := by rw [Paired.length hpr, kvV_len]
    refine ⟨_, s24 _ _ hacc, ?_, fun b o hb => ?_, ts ++ [U], ?_, ?_⟩
    · rw [List.length_map, htl, List.length_take]
      exact Nat.lt_of_le_of_lt (Nat.le_trans (Nat.min_le_right _ _) hl) (by decide)
    · rw [upd_ne (ne_of_none hb hD)]
      exact s24 _ _ (sm _ _ hb)
    · rw [upd_same, List.map_append]
      rfl
    · rw [take_more hz]
      exact pairs_snoc hpr (fun b o hb e => by rw [upd_ne hb]; exact s24 _ _ e) hUD (by rw [upd_ne hUD]; exact eU)
  · rintro G ⟨sm, ts, hacc, hpr⟩
    rw [List.length_map, List.take_length] at hpr
    exact hd G ts sm hacc (Paired.mono (fun _ _ h => h.2) hpr)
end
end RK

/-! list(zip(xs, ys)) of two lists -/
namespace ZiL
open PySem PySem.Spec PyProof.Rows PySem.W PySem.Calls
theorem nolen_zip : typeLookup (.type "zip") "__len__" = pure none := by rw [typeLookup_type, builtinLookup_eq_fast]; kernel_rfl
theorem nohint_zip : typeLookup (.type "zip") "__length_hint__" = pure none := by rw [typeLookup_type, builtinLookup_eq_fast]; kernel_rfl
/-- the zip as it stands ahead of its i-th turn, while a tuple that it gave may still be out -/
def ZSt (z TI TO i1 i2 l1 l2 S : Addr) (xs ys : Array Value) (i : Nat) (h : Heap) : Prop :=
  IsPair h TI (.ref i1) (.ref i2) ∧ h.IsListIter i1 l1 i ∧ h.IsListIter i2 l2 i ∧ h.IsList l1 xs ∧ h.IsList l2 ys ∧
    ((IsZip h z TI TO .none ∧ ∃ a b, IsPair h TO a b) ∨ ∃ T f oT, IsZipHeld h z TI TO T f ∧ h.get? T = some oT ∧ T ≠ z ∧ T ≠ i1 ∧ T ≠ i2 ∧ T ≠ S)
structure ZLow (z TI TO i1 i2 l1 l2 S : Addr) : Prop where
  z : z < S
  TI : TI < S
  TO : TO < S
  i1 : i1 < S
  i2 : i2 < S
  l1 : l1 < S
  l2 : l2 < S
section
variable {prog : Program} {w : World} {A : Around} {E : Value → Shared → Prop} {s : Shared} {z TI TO i1 i2 l1 l2 S : Addr} {xs ys : Array Value}
theorem ZSt.keep {i : Nat} {h h' : Heap} (x : ZSt z TI TO i1 i2 l1 l2 S xs ys i h) (L : ZLow z TI TO i1 i2 l1 l2 S) (hk : ∀ b o, b ≠ S → h.get? b = some o → h'.get? b = some o) : ZSt z TI TO i1 i2 l1 l2 S xs ys i h' := by
  obtain ⟨hTI, h1, h2, hl1, hl2, hz⟩ := x
  refine ⟨hk _ _ (Nat.ne_of_lt L.TI) hTI, h1.at fun o e => hk _ o (Nat.ne_of_lt L.i1) e, h2.at fun o e => hk _ o (Nat.ne_of_lt L.i2) e, hl1.at fun o e => hk _ o (Nat.ne_of_lt L.l1) e, hl2.at fun o e => hk _ o (Nat.ne_of_lt L.l2) e, ?_⟩
  rcases hz with ⟨hz, a, b, hTO⟩ | ⟨T, f, oT, hz, hT, r1, r2, r3, r4⟩
  · exact .inl ⟨hk _ _ (Nat.ne_of_lt L.z) hz, a, b, hk _ _ (Nat.ne_of_lt L.TO) hTO⟩
  · exact .inr ⟨T, f, oT, hk _ _ (Nat.ne_of_lt L.z) hz, hk _ _ r4 hT, r1, r2, r3, r4⟩
theorem z_item {i : Nat} {x y : Value} {Q : Option Value → Shared → Prop} (D : ZipApart z TI TO i1 i2 l1 l2) (hS : S < s.heap.objs.size) (st : ZSt z TI TO i1 i2 l1 l2 S xs ys i s.heap) (ex : xs[i]? = some x) (ey : ys[i]? = some y)
    (hQ : ∀ h', ZSt z TI TO i1 i2 l1 l2 S xs ys (i + 1) h' → h'.get? s.heap.objs.size = some { cls := .type "tuple", data := .seq #[x, y] } → h'.objs.size = s.heap.objs.size + 1 →
      (∀ c o, c ≠ z → c ≠ TO → c ≠ i1 → c ≠ i2 → s.heap.get? c = some o → h'.get? c = some o) → Q (some (.ref s.heap.objs.size)) { s with heap := h' }) :
    wpAny (model prog w) A (pyNext (.ref z)) Q E s := by
  obtain ⟨hTI, h1, h2, hl1, hl2, hz⟩ := st
  have lt : ∀ {c o}, s.heap.get? c = some o → s.heap.objs.size ≠ c := fun e => Nat.ne_of_gt (Heap.lt_size e)
  have n1 : s.heap.objs.size ≠ i1 := let ⟨_, e, _⟩ := h1; lt e
  have n2 : s.heap.objs.size ≠ i2 := let ⟨_, e, _⟩ := h2; lt e
  rcases hz with ⟨hz, a, b, hTO⟩ | ⟨T, f, oT, hz, hT, r1, r2, r3, r4⟩
  · refine wpAny_pyNext_zip_item D hz hTI hTO h1 h2 hl1 hl2 ex ey fun h' a1 a2 a3 a4 a5 a6 hk => ?_
    exact hQ h' ⟨hk _ _ D.TIz D.TITO D.TIi1 D.TIi2 hTI, a3, a4, hl1.at fun o e => hk _ o D.l1z D.l1TO D.l1i1 D.l1i2 e, hl2.at fun o e => hk _ o D.l2z D.l2TO D.l2i1 D.l2i2 e,
      .inr ⟨s.heap.objs.size, false, _, a1, a5, lt hz, n1, n2, Nat.ne_of_gt hS⟩⟩ a5 a6 hk
  · refine wpAny_pyNext_zip_item_held D hz hT hTI h1 h2 hl1 hl2 ex ey fun h' a1 a3 a4 a5 a6 hk => ?_
    exact hQ h' ⟨hk _ _ D.TIz D.TIi1 D.TIi2 hTI, a3, a4, hl1.at fun o e => hk _ o D.l1z D.l1i1 D.l1i2 e, hl2.at fun o e => hk _ o D.l2z D.l2i1 D.l2i2 e,
      .inr ⟨T, true, oT, a1, hk _ _ r1 r2 r3 hT, r1, r2, r3, r4⟩⟩ a5 a6 fun c o c1 _ c3 c4 e => hk c o c1 c3 c4 e
theorem z_done {i : Nat} {Q : Option Value → Shared → Prop} (hh : A.handled = none) (D : ZipApart z TI TO i1 i2 l1 l2) (st : ZSt z TI TO i1 i2 l1 l2 S xs ys i s.heap) (hend : xs[i]? = none ∨ ys[i]? = none)
    (hQ : ∀ h', (∀ c o, c ≠ z → c ≠ TO → c ≠ i1 → c ≠ i2 → s.heap.get? c = some o → h'.get? c = some o) → Q none { s with heap := h' }) : wpAny (model prog w) A (pyNext (.ref z)) Q E s := by
  obtain ⟨hTI, h1, h2, hl1, hl2, hz⟩ := st
  rcases hz with ⟨hz, a, b, hTO⟩ | ⟨T, f, oT, hz, hT, r1, r2, r3, r4⟩
  · exact wpAny_pyNext_zip_end hh D hz hTI hTO h1 h2 hl1 hl2 hend fun h' hk => hQ h' hk
  · exact wpAny_pyNext_zip_end_held hh D hz hT hTI h1 h2 hl1 hl2 hend fun h' hk => hQ h' fun c o c1 _ c3 c4 e => hk c o c1 c3 c4 e
structure ZG (xs ys : Array Value) (lo : Addr) (h : Heap) (as : List Addr) : Prop where
  rise : as.Pairwise (· < ·)
  above : ∀ a ∈ as, lo < a
  pairs : ∀ (j : Nat) (a : Addr), as[j]? = some a → ∃ x y, xs[j]? = some x ∧ ys[j]? = some y ∧ h.get? a = some { cls := .type "tuple", data := .seq #[x, y] }
theorem ZG.there {lo : Addr} {h : Heap} {as : List Addr} (g : ZG xs ys lo h as) {a : Addr} (ha : a ∈ as) : a < h.objs.size := by
  obtain ⟨j, hj⟩ := List.mem_iff_getElem?.mp ha
  obtain ⟨_, _, _, _, e⟩ := g.pairs j a hj
  exact Heap.lt_size e
theorem z_loop {R : Result → Shared → Prop} (hh : A.handled = none) (D : ZipApart z TI TO i1 i2 l1 l2) (L : ZLow z TI TO i1 i2 l1 l2 S) (hn : xs.size ≤ sizeLine) (hxy : xs.size = ys.size) (res : Value) {h₁ : Heap}
    (hR : ∀ h' tk acc c as, (∀ b o, b ≠ S → b ≠ z → b ≠ TO → b ≠ i1 → b ≠ i2 → h₁.get? b = some o → h'.get? b = some o) → h'.get? S = some { cls := .type "list", dict := none, data := .seq acc c, slots := #[] } → as.length = xs.size → ZG xs ys S h' as →
      acc.toList = as.map Value.ref → R (.ok (.ret res)) { s with heap := h', toks := tk }) :
    ∀ (k i : Nat) (h : Heap) (tk c : Nat) (acc : Array Value) (as : List Addr), xs.size - i = k → i ≤ xs.size → ZSt z TI TO i1 i2 l1 l2 S xs ys i h → (∀ b o, b ≠ S → b ≠ z → b ≠ TO → b ≠ i1 → b ≠ i2 → h₁.get? b = some o → h.get? b = some o) →
      h.get? S = some { cls := .type "list", dict := none, data := .seq acc c, slots := #[] } → acc.toList = as.map Value.ref → as.length = i → ZG xs ys S h as →
      codeAny (model prog w) A (.builtin "list.extend.loop" ⟨[.ref S, .ref z, res], []⟩) R { s with heap := h, toks := tk } := by
  have nz : S ≠ z := Nat.ne_of_gt L.z
  have nTO : S ≠ TO := Nat.ne_of_gt L.TO
  have n1 : S ≠ i1 := Nat.ne_of_gt L.i1
  have n2 : S ≠ i2 := Nat.ne_of_gt L.i2
  have off : ∀ {b : Addr}, S < b → b ≠ z ∧ b ≠ TO ∧ b ≠ i1 ∧ b ≠ i2 := fun hb => ⟨Nat.ne_of_gt (Nat.lt_trans L.z hb), Nat.ne_of_gt (Nat.lt_trans L.TO hb), Nat.ne_of_gt (Nat.lt_trans L.i1 hb), Nat.ne_of_gt (Nat.lt_trans L.i2 hb)⟩
  intro k
  induction k with
  | zero =>
    intro i h tk c acc as hk hi hst hkeep hS hacc hal hG
    have hin : i = xs.size := by omega
    refine codeAny_builtin PySem.F.entry_extend_loop ?_
    rw [Around.under_plainId PySem.F.plain_extend_loop _]
    show wpAny _ A.in1 (pyNext (.ref z) >>= _) _ _ _
    refine wpAny_bind (z_done (s := { s with heap := h, toks := tk }) (A := A.in1) hh D hst (.inl (Array.getElem?_eq_none (by omega))) fun h' he => ?_)
    refine wpAny_pure (hR h' tk acc c as (fun b o h1 h2 h3 h4 h5 e => he b o h2 h3 h4 h5 (hkeep b o h1 h2 h3 h4 h5 e)) (he S _ nz nTO n1 n2 hS) (by omega) ⟨hG.rise, hG.above, fun j a hj => ?_⟩ hacc)
    obtain ⟨x, y, e1, e2, e3⟩ := hG.pairs j a hj
    obtain ⟨o1, o2, o3, o4⟩ := off (hG.above a (List.mem_of_getElem? hj))
    exact ⟨x, y, e1, e2, he a _ o1 o2 o3 o4 e3⟩
  | succ k ih =>
    intro i h tk c acc as hk hi hst hkeep hS hacc hal hG
    have hlt : i < xs.size := by omega
    have hlt2 : i < ys.size := by omega
    have ex := Array.getElem?_eq_getElem hlt
    have ey := Array.getElem?_eq_getElem hlt2
    have hsz : acc.size = i := by rw [← Array.length_toList, hacc, List.length_map, hal]
    have hSl : S < h.objs.size := Heap.lt_size hS
    refine codeAny_builtin PySem.F.entry_extend_loop ?_
    rw [Around.under_plainId PySem.F.plain_extend_loop _]
    show wpAny _ A.in1 (pyNext (.ref z) >>= _) _ _ _
    refine wpAny_bind (z_item (s := { s with heap := h, toks := tk }) (S := S) D hSl hst ex ey fun h' hst' ht hz hkp => ?_)
    dsimp only at ht hz hkp ⊢
    have hS' := hkp S _ nz nTO n1 n2 hS
    have up : ∀ b o, b ≠ S → h'.get? b = some o → (h'.update S (Obj.mapSeq (·.push (Value.ref h.objs.size)))).get? b = some o := fun b o hb e => (Heap.get?_update_other _ _ (Ne.symm hb)).trans e
    show wpAny _ A.in1 (updateSeq S (·.push (Value.ref h.objs.size)) >>= _) _ _ _
    refine wpAny_bind ?_
    refine wpAny_updateSeq hS' rfl (wpAny_pure ⟨plainId_quiet PySem.F.plain_extend_loop _, ih (i + 1) _ tk _ (acc.push (Value.ref h.objs.size)) (as ++ [h.objs.size]) (by omega) hlt (hst'.keep L up)
      (fun b o h1 h2 h3 h4 h5 e => up b o h1 (hkp b o h2 h3 h4 h5 (hkeep b o h1 h2 h3 h4 h5 e))) (Heap.get?_update_self _ hS' rfl) (by rw [Array.toList_push, hacc, List.map_append]; rfl) (by rw [List.length_append, hal]; rfl) ⟨?_, ?_, ?_⟩⟩) (by rw [hsz]; omega) (by show (acc.push (Value.ref h.objs.size)).size ≤ sizeLine + 1; rw [Array.size_push, hsz]; omega)
    · refine List.pairwise_append.mpr ⟨hG.rise, List.pairwise_singleton _ _, fun a ha b hb => ?_⟩
      rw [List.mem_singleton.mp hb]
      exact hG.there ha
    · intro a ha
      rcases List.mem_append.mp ha with ha | ha
      · exact hG.above a ha
      · rw [List.mem_singleton.mp ha]; exact hSl
    · intro j b hj
      rcases Nat.lt_trichotomy j as.length with h1 | h1 | h1
      · rw [List.getElem?_append_left h1] at hj
        obtain ⟨x', y', e1, e2, e3⟩ := hG.pairs j b hj
        have hb := hG.above b (List.mem_of_getElem? hj)
        obtain ⟨o1, o2, o3, o4⟩ := off hb
        exact ⟨x', y', e1, e2, up b _ (Nat.ne_of_gt hb) (hkp b _ o1 o2 o3 o4 e3)⟩
      · subst h1
        have hb : h.objs.size = b := by simpa using hj
        subst hb
        exact ⟨_, _, by rw [hal]; exact ex, by rw [hal]; exact ey, up _ _ (Nat.ne_of_gt hSl) ht⟩
      · have hnone : (as ++ [h.objs.size])[j]? = none := List.getElem?_eq_none (by rw [List.length_append, List.length_singleton]; omega)
        rw [hnone] at hj; cases hj
theorem z_extend {R : Result → Shared → Prop} (hh : A.handled = none) (D : ZipApart z TI TO i1 i2 l1 l2) (L : ZLow z TI TO i1 i2 l1 l2 S) (hn : xs.size ≤ sizeLine) (hxy : xs.size = ys.size) (res : Value) (c₀ : Nat)
    (st : ZSt z TI TO i1 i2 l1 l2 S xs ys 0 s.heap) (hz : IsZip s.heap z TI TO .none) (hS : s.heap.get? S = some { cls := .type "list", data := .seq #[] c₀ })
    (hR : ∀ h' tk acc c as, (∀ b o, b ≠ S → b ≠ z → b ≠ TO → b ≠ i1 → b ≠ i2 → s.heap.get? b = some o → h'.get? b = some o) → h'.get? S = some { cls := .type "list", dict := none, data := .seq acc c, slots := #[] } → as.length = xs.size → ZG xs ys S h' as →
      acc.toList = as.map Value.ref → R (.ok (.ret res)) { s with heap := h', toks := tk }) :
    wpAny (model prog w) A.in1 (Builtin.List.listExtendWith (.ref S) (.ref z) res)
      (fun fin s' => match fin with | .done f => R (.ok f) s' | .again c' => c'.quiet = true ∧ codeAny (model prog w) A c' R s') (fun e s' => R (.error e) s') s := by
  have hSz : S ≠ z := Nat.ne_of_gt L.z
  have key : ∀ (h : Heap) (c₁ tk : Nat), (∀ b o, b ≠ S → s.heap.get? b = some o → h.get? b = some o) → h.get? S = some { cls := .type "list", data := .seq #[] c₁ } → codeAny (model prog w) A (.builtin "list.extend.loop" ⟨[.ref S, .ref z, res], []⟩) R { s with heap := h, toks := tk } := by
    intro h c₁ tk hk hS₁
    exact z_loop (s := s) (h₁ := s.heap) hh D L hn hxy res hR xs.size 0 h tk c₁ #[] [] (Nat.sub_zero _) (Nat.zero_le _) (st.keep L hk) (fun b o hb _ _ _ _ e => hk b o hb e) hS₁ rfl rfl
      ⟨List.Pairwise.nil, (fun _ ha => nomatch ha), (fun j a hj => by simp at hj)⟩
  have hT : s.TypeIs (.ref z) "zip" := ⟨_, hz, rfl⟩
  unfold Builtin.List.listExtendWith
  refine wpAny_bind (wpAny_typeOf (T := "zip") hT ?_)
  have h1 : Builtin.List.listSameRef (.ref S) (.ref z) = false := by simp [Builtin.List.listSameRef, hSz]
  have h2 : (Value.type "zip" == Value.type "list") = false := by decide
  have h3 : (Value.type "zip" == Value.type "tuple") = false := by decide
  simp only [h1, h2, h3, Bool.or_false, Bool.false_eq_true, if_false]
  refine wpAny_bind (wpAny_pyIter_zip hz ?_)
  refine wpAny_bind (wpAny_holding ?_)
  unfold Builtin.List.listLengthHint
  refine wpAny_bind (wpAny_specialOf hT nolen_zip ?_)
  show wpAny _ A.in1 (specialOf (Value.ref z) (Str.ofString "__length_hint__") >>= _) _ _ _
  refine wpAny_bind (wpAny_specialOf hT nohint_zip ?_)
  refine wpAny_pure ?_
  show wpAny _ A.in1 (rule "list.extend.makes-room" >>= fun _ => Builtin.List.listTouch (.ref S) >>= fun _ =>
    again (.builtin "list.extend.loop" ⟨[.ref S, .ref z, res], []⟩)) _ _ _
  refine wpAny_bind (wpAny_rule ?_)
  refine wpAny_bind ?_
  show wpAny _ _ (updateSeq S (·.push .none) >>= fun _ => updateSeq S (·.pop)) _ _ _
  refine wpAny_bind (wpAny_updateSeq hS rfl ?_)
  have hS₂ := Heap.get?_update_self (Obj.mapSeq (·.push Value.none)) hS rfl
  refine wpAny_updateSeq (hz := by seq_fits) hS₂ rfl ?_
  have hS₃ := Heap.get?_update_self (Obj.mapSeq (·.pop)) hS₂ rfl
  refine wpAny_pure ⟨plainId_quiet PySem.F.plain_extend_loop _, key _ _ _ (fun b o hb e => ?_) hS₃⟩
  exact (Heap.get?_update_other _ _ (Ne.symm hb)).trans ((Heap.get?_update_other _ _ (Ne.symm hb)).trans e)
theorem z_call {Q : Value → Shared → Prop} (hh : A.handled = none) (D : ZipApart z TI TO i1 i2 l1 l2) (L : ZLow z TI TO i1 i2 l1 l2 s.heap.objs.size) (hn : xs.size ≤ sizeLine) (hxy : xs.size = ys.size)
    (st : ∀ S h, (∀ b o, s.heap.get? b = some o → h.get? b = some o) → ZSt z TI TO i1 i2 l1 l2 S xs ys 0 h) (hz : IsZip s.heap z TI TO .none)
    (hQ : ∀ h' tk acc c as, (∀ b o, b ≠ z → b ≠ TO → b ≠ i1 → b ≠ i2 → s.heap.get? b = some o → h'.get? b = some o) → h'.get? s.heap.objs.size = some { cls := .type "list", dict := none, data := .seq acc c, slots := #[] } → as.length = xs.size → ZG xs ys s.heap.objs.size h' as →
      acc.toList = as.map Value.ref → Q (.ref s.heap.objs.size) { s with heap := h', toks := tk }) :
    wpAny (model prog w) A (call (.type "list") [.ref z]) Q E s := by
  refine callType_codes (Q₁ := fun obj s₁ => obj = .ref s.heap.objs.size ∧ s₁ = { s with heap := s.heap.push { cls := .type "list", data := .seq #[] } }) PySem.F.called_list (PySem.F.typeCall_list_1 _) PySem.F.entry_list_init
    (code_list_new _ ⟨rfl, rfl⟩) fun obj s₁ h₁ => ?_
  obtain ⟨rfl, rfl⟩ := h₁
  have hS : (s.heap.push { cls := .type "list", data := .seq #[] }).get? s.heap.objs.size = some { cls := .type "list", data := .seq #[] } := Heap.get?_push_size _ rfl
  refine ⟨⟨_, hS, rfl⟩, PySem.F.args_list_init_2 _ _, ?_⟩
  show wpAny _ _ (do let old ← Builtin.List.listItems (.ref s.heap.objs.size); Builtin.List.listUpdate (.ref s.heap.objs.size) (fun _ => #[]); letGo old.toList.reverse; Builtin.List.listExtendWith (.ref s.heap.objs.size) (.ref z) .none) _ _ _
  refine wpAny_bind ?_
  unfold Builtin.List.listItems
  refine wpAny_bind (wpAny_seqItems hS rfl (wpAny_pure ?_))
  show wpAny _ _ (updateSeq s.heap.objs.size (fun _ => #[]) >>= fun _ => letGo (#[] : Array Value).toList.reverse >>= fun _ => Builtin.List.listExtendWith (.ref s.heap.objs.size) (.ref z) .none) _ _ _
  refine wpAny_bind (wpAny_updateSeq hS rfl ?_)
  have hS₂ := Heap.get?_update_self (Obj.mapSeq (fun _ => (#[] : Array Value))) hS rfl
  have oth : ∀ b o, s.heap.get? b = some o → ((s.heap.push { cls := .type "list", data := .seq #[] }).update s.heap.objs.size (Obj.mapSeq (fun _ => (#[] : Array Value)))).get? b = some o :=
    fun b o e => (Heap.get?_update_other _ _ (Nat.ne_of_gt (Heap.lt_size e))).trans (Heap.get?_push_of_some _ e)
  refine wpAny_bind (wpAny_letGo ?_)
  refine z_extend (A := A.in1) hh D L hn hxy .none _ (st _ _ oth) (oth _ _ hz) hS₂ fun h' tk acc c as hk hS' hl hG hacc => ?_
  exact ⟨rfl, hQ h' tk acc c as (fun b o h1 h2 h3 h4 e => hk b o (Nat.ne_of_lt (Heap.lt_size e)) h1 h2 h3 h4 (oth b o e)) hS' hl hG hacc⟩
end
open L2
/-- new pairs at these addresses -/
def putZ : Hp → List Addr → List (V × V) → Hp
  | H, a :: as, p :: ps => putZ (upd H a (.tup [p.1, p.2])) as ps
  | H, _, _ => H
theorem putZ_off {b : Addr} : ∀ (as : List Addr) (ps : List (V × V)) (H : Hp), b ∉ as → putZ H as ps b = H b
  | [], _, _, _ => rfl
  | _ :: _, [], _, _ => rfl
  | a :: as, p :: ps, H, h => by
    show putZ (upd H a (.tup [p.1, p.2])) as ps b = H b
    rw [putZ_off as ps _ (fun z => h (List.mem_cons_of_mem _ z)), upd_ne (fun z => h (by rw [z]; exact List.mem_cons_self))]
theorem putZ_at : ∀ (as : List Addr) (ps : List (V × V)) (H : Hp), as.length = ps.length → as.Nodup → Paired (fun (t : Addr) (p : V × V) => putZ H as ps t = some (.tup [p.1, p.2])) as ps
  | [], [], _, _, _ => .nil
  | [], _ :: _, _, h, _ => by cases h
  | _ :: _, [], _, h, _ => by cases h
  | a :: as, p :: ps, H, h, hn => by
    have hn' := List.nodup_cons.mp hn
    have ih := putZ_at as ps (upd H a (.tup [p.1, p.2])) (Nat.succ.inj h) hn'.2
    refine .cons ?_ ih
    show putZ (upd H a (.tup [p.1, p.2])) as ps a = some (.tup [p.1, p.2])
    rw [putZ_off as ps _ hn'.1, upd_same]
def tListZip (K : PySem.W.Frag) (ta : TA) : TE := fun σ H Q => ta σ H fun vs H1 => ∃ (a b : Addr) (xs ys : List V), vs = [.ref a, .ref b] ∧ SqL K H1 a xs ∧ SqL K H1 b ys ∧ xs.length = ys.length ∧
  ∀ (H' : Hp) (p : Addr) (ts : List Addr), (∀ b o, H1 b = some o → H' b = some o) → H1 p = none → (∀ t ∈ ts, H1 t = none) → p ∉ ts → H' p = some (.lst (ts.map V.ref)) → Paired (fun (t : Addr) (q : V × V) => H' t = some (.tup [q.1, q.2])) ts (xs.zip ys) → Q (.ref p) H'
section
variable {X : Cx} {e e2 : Expr} {ta : TA} {p zp zpos pos : Pos}
theorem zip_laid {pins : List (Addr × Obj)} {σ : L2.St} {H : Hp} {s : Shared} {h' : Heap} {tk S : Nat} {xs ys : List V} {us ws : List Value} {acc : Array Value} {c : Nat} {as : List Addr} (I : Inv X pins σ H s) (hz : xs.length ≤ sizeLine) (rx : Vals xs us) (ry : Vals ys ws) (hxy : xs.length = ys.length)
    (hSz : s.heap.objs.size ≤ S) (hk : ∀ b o, s.heap.get? b = some o → h'.get? b = some o) (hS : h'.get? S = some { cls := .type "list", dict := none, data := .seq acc c, slots := #[] }) (hl : as.length = xs.length) (hG : ZG us.toArray ws.toArray S h' as) (hacc : acc.toList = as.map Value.ref) :
    ∃ H' : Hp, (∀ b o, H b = some o → H' b = some o) ∧ H S = none ∧ (∀ t ∈ as, H t = none) ∧ S ∉ as ∧ H' S = some (.lst (as.map V.ref)) ∧ Paired (fun (t : Addr) (q : V × V) => H' t = some (.tup [q.1, q.2])) as (xs.zip ys) ∧ Inv X pins σ H' { s with heap := h', toks := tk } := by
  have lz : (xs.zip ys).length = xs.length := by rw [List.length_zip, ← hxy, Nat.min_self]
  have hSn : S ∉ as := fun z => Nat.lt_irrefl _ (hG.above _ z)
  have nd : as.Nodup := List.Pairwise.imp (fun {a b} (h : a < b) => Nat.ne_of_lt h) hG.rise
  have new : ∀ t ∈ as, H t = none := fun t ht => I.hok.fresh (Nat.le_trans hSz (Nat.le_of_lt (hG.above t ht)))
  have newS : H S = none := I.hok.fresh hSz
  have atP := putZ_at as (xs.zip ys) (upd H S (.lst (as.map V.ref))) (by rw [lz, hl]) nd
  have off : ∀ b, b ∉ as → b ≠ S → putZ (upd H S (.lst (as.map V.ref))) as (xs.zip ys) b = H b := fun b h1 h2 => by rw [putZ_off as _ _ h1, upd_ne h2]
  have low : ∀ b o, s.heap.get? b = some o → b ∉ as ∧ b ≠ S := fun b o e => ⟨fun z => absurd (Heap.lt_size e) (Nat.not_lt.mpr (Nat.le_trans hSz (Nat.le_of_lt (hG.above b z)))), Nat.ne_of_lt (Nat.lt_of_lt_of_le (Heap.lt_size e) hSz)⟩
  have kp : ∀ b u, H b = some u → (putZ (upd H S (.lst (as.map V.ref))) as (xs.zip ys)) b = some u := fun b u e => by
    rw [off b (fun z => by rw [new b z] at e; cases e) (fun z => by rw [z, newS] at e; cases e)]
    exact e
  have eS : putZ (upd H S (.lst (as.map V.ref))) as (xs.zip ys) S = some (.lst (as.map V.ref)) := by rw [putZ_off as _ _ hSn, upd_same]
  refine ⟨putZ (upd H S (.lst (as.map V.ref))) as (xs.zip ys), kp, newS, new, hSn, eS, atP, ?_⟩
  refine I.call' (ch := []) rfl ⟨fun b o q _ _ _ => hk b o q, fun b o q _ _ _ => ⟨o.slots, hk b o q⟩, fun b o q n _ => ?_, fun b o q _ => ⟨o, hk b o q⟩, fun b xs q => kp b _ q, fun b o u q => kp b _ q, fun b ps q => ⟨#[], by rw [kp b _ q]; simp⟩⟩ (fun b u q => ?_) I.bare fun b z => by simp at z
  · obtain ⟨z1, z2⟩ := low b o q
    rw [off b z1 z2]
    exact n
  · by_cases hb : b ∈ as
    · obtain ⟨j, pq, e1, e2, e3⟩ := LiI.paired_ix atP hb
      rw [e3] at q
      cases q
      obtain ⟨x, y, f1, f2, f3⟩ := hG.pairs j b e1
      obtain ⟨ex, ey⟩ := List.getElem?_zip_eq_some.mp e2
      obtain ⟨u1, g1, r1⟩ := rx.get ex
      obtain ⟨u2, g2, r2⟩ := ry.get ey
      have q1 : us[j]? = some x := by simpa using f1
      have q2 : ws[j]? = some y := by simpa using f2
      rw [g1] at q1
      rw [g2] at q2
      cases q1
      cases q2
      exact ⟨by show 2 ≤ sizeLine; decide, [x, y], .cons r1 (.cons r2 .nil), ⟨_, f3, rfl, _, rfl⟩⟩
    · by_cases hb2 : b = S
      · rw [hb2] at q ⊢
        rw [eS] at q
        cases q
        refine ⟨by rw [List.length_map]; omega, acc.toList, c, by rw [hacc]; exact LiI.vals_refs as, ?_⟩
        rw [Array.toArray_toList]
        exact hS
      · rw [off b hb hb2] at q
        exact (I.hok b u q).stay (fun d v _ y => hk d v y) (fun d y => kp d _ y) fun d xs y => kp d _ y
/-- list(zip(e, e2)) -/
theorem pe_listZip (hc : X.calm = true) (hg : Gl X "list") (hm : X.mg "list" = none) (hv : bootBuiltins "list" = some (.type "list")) (hgz : Gl X "zip") (hmz : X.mg "zip" = none) (ha : PA X [e, e2] ta)
    (hs : starEach [.Call (.Name "zip" zp) [e, e2] [] zpos] X.env = (false, eval (.Call (.Name "zip" zp) [e, e2] [] zpos) X.env) :: starEach [] X.env := by rfl)
    (hsz : starEach [e, e2] X.env = (false, eval e X.env) :: starEach [e2] X.env := by rfl) (hpl : (backTo zpos (starEach [e2] X.env)).any (·.1) = false := by rfl) :
    PE X (.Call (.Name "list" p) [.Call (.Name "zip" zp) [e, e2] [] zpos] [] pos) (tListZip X.K ta) := by
  refine ⟨fun pins s σ H Q I hq => ?_⟩
  refine wpAny_Call_Name_kw (ld_blt I hg hm hv ?_)
  refine PyProof.Rows.callWith_type1 ?_ hs rfl
  rw [hs]
  show wpAny _ _ (spliced ((false, eval (.Call (.Name "zip" zp) [e, e2] [] zpos) X.env) :: backTo pos (starEach [] X.env))) _ _ s
  refine Calls.spliced_cons ?_
  refine Call_ (ld_blt I hgz hmz PyProof.Rows.boot_zip (PyProof.Rows.callWith_type1 (thn (ha.run zpos pins s σ H _ I hq) fun us s1 ⟨vs, H1, I1, r1, q1⟩ => ?_) hsz hpl))
  obtain ⟨a, b, xs, ys, ex, hqx, hqy, hxy, q⟩ := q1
  subst ex
  cases r1 with
  | cons r rr =>
    cases rr with
    | cons r' rr =>
      cases rr
      cases r
      cases r'
      obtain ⟨its, rv, p1, b1⟩ := I1.list hqx
      obtain ⟨its2, rv2, p2, _⟩ := I1.list hqy
      have la : a < s1.heap.objs.size := p1.lt
      have lb : b < s1.heap.objs.size := p2.lt
      have lx : its.length = xs.length := rv.length.symm
      have ly : its2.length = ys.length := rv2.length.symm
      refine call_zip_2 p1.isList p2.isList fun h' hz hTI hTO h1 h2 hsize hk => ?_
      refine Calls.spliced_nil ?_
      have low : ZLow (s1.heap.objs.size + 4) (s1.heap.objs.size + 2) (s1.heap.objs.size + 3) s1.heap.objs.size (s1.heap.objs.size + 1) a b h'.objs.size := by
        rw [hsize]
        exact ⟨Nat.add_lt_add_left (by decide) _, Nat.add_lt_add_left (by decide) _, Nat.add_lt_add_left (by decide) _, Nat.lt_add_of_pos_right (by decide), Nat.add_lt_add_left (by decide) _, Nat.lt_of_lt_of_le la (Nat.le_add_right _ _), Nat.lt_of_lt_of_le lb (Nat.le_add_right _ _)⟩
      refine z_call (s := { s1 with heap := h' }) (xs := its.toArray) (ys := its2.toArray) (I1.ok.hd hc) (zipApart_new la lb) low ?_ ?_ (fun S h hkh => ⟨hkh _ _ hTI, h1.at fun o e => hkh _ o e, h2.at fun o e => hkh _ o e, p1.isList.at fun o e => hkh _ o (hk _ o e), p2.isList.at fun o e => hkh _ o (hk _ o e), .inl ⟨hkh _ _ hz, _, _, hkh _ _ hTO⟩⟩) hz fun h2' tk acc c as hk2 hS hl hG hacc => ?_
      · show its.length ≤ sizeLine
        omega
      · show its.length = its2.length
        omega
      have hkAll : ∀ b o, s1.heap.get? b = some o → h2'.get? b = some o := by
        intro b o e
        have l := Heap.lt_size e
        exact hk2 b o (Nat.ne_of_lt (Nat.lt_of_lt_of_le l (Nat.le_add_right _ _))) (Nat.ne_of_lt (Nat.lt_of_lt_of_le l (Nat.le_add_right _ _))) (Nat.ne_of_lt l) (Nat.ne_of_lt (Nat.lt_of_lt_of_le l (Nat.le_add_right _ _))) (hk b o e)
      obtain ⟨H', k1, k2, k3, k4, k5, k6, J⟩ := zip_laid (s := s1) (tk := tk) (S := h'.objs.size) (xs := xs) (ys := ys) I1 (by omega) rv rv2 hxy (by rw [hsize]; omega) hkAll hS (by rw [hl]; exact lx) hG hacc
      exact ⟨.ref _, H', J, rfl, q H' _ as k1 k2 k3 k4 k5 k6⟩
end
end ZiL

namespace RK
open PySem L2
/-! ### a path, how far, a lap -/
def spWPath (C : Addr) : Sp := fun vs H Q _ => ∃ (a n : Addr) (zs : List Str) (m : Nat), vs = [.ref a, .ref n] ∧ a ≠ n ∧ SpAt H a m ∧ m < 2000000000 ∧ H n = some (.lst (zs.map V.str)) ∧ zs.Nodup ∧ Nm zs ∧ (∀ z ∈ zs, z.length ≤ 1000) ∧ 2 ≤ zs.length ∧ zs.length ≤ 1000 ∧
  ∀ p t H', PathAt C H' p t zs → p ≠ a → t ≠ a → SpAt H' a (m + 1) → But a H H' → Q (.ref p) H'
def spWFar : Sp := fun vs H Q _ => ∃ (a : Addr) (m : Nat), vs = [.ref a] ∧ SpAt H a m ∧ m < 2000000000 ∧ ∀ (N : Nat) H', N ≤ 1000000000000000 → SpAt H' a (m + 1) → But a H H' → Q (.int N) H'
def spWLap : Sp := fun vs H Q _ => ∃ (a : Addr) (N m : Nat), vs = [.ref a, .int N] ∧ N ≤ 1000000000000000 ∧ SpAt H a m ∧ m < 2000000000 ∧ ∀ (r : Int) H', r.natAbs ≤ 2000000000000000 → SpAt H' a (m + 2) → But a H H' → Q (.int r) H'
section
variable {P : Program} {w : World} {K : PySem.W.Frag} {mg : Str → Option Value} {base : Heap} {C CB fB : Addr}
theorem scWPath : FnScope ["source", "names"] ["source", "names"] (defScope sWPath) := ⟨rfl, rfl, rfl, by decide +kernel, rfl, by decide +kernel, by decide +kernel⟩
theorem ok_wpath {f fI fP : Addr} {fd fdI fdP : FuncData} (F : Fun K "_law_w_path" "_law_w_path" sWPath f fd) (B : B0 K mg) (T : PT0 P K mg C CB fB)
    (GI : FnOk P w K mg base (L2.CX P w) 2 fI fdI ["self", "walkers"] (spInit K C CB)) (bI : Binds K fdI ["self", "walkers"] []) (M : Mk K C fI)
    (GP : FnOk P w K mg base CX0 2 fP fdP ["source", "some"] spPick) (bP : Binds K fdP ["source", "some"] []) (gP : mg "_law_pick" = some (.ref fP)) (kPb : PySem.W.keepIn K (.ref fP) = true) :
    FnOk P w K mg base CX0 4 f fd ["source", "names"] (spWPath C) := by
  refine F.ok scWPath (fun vs H Q E h => ?_) (fun cdv A outer s H vs Q E hr h => ?_)
  · obtain ⟨a, n, zs, m, rfl, _⟩ := h
    rfl
  · obtain ⟨a, n, zs, m, rfl, han, hsp, hm, hn, hnd, hnm, hzl, h2, hl, q⟩ := h
    have hr2 : Room 2 _ := hr.mono (by decide)
    have hr3 : Room 3 _ := hr.mono (by decide)
    refine ⟨_, pss_one (ps_ret (pe_make M GI hr3 (by rfl) T.mgC bI .nil passL (pa_cons (pe_call GP hr2 (by rfl) gP kPb bP .nil pass0 (pa_cons (pv 0) (pa_cons (pe_lst (pa_cons (pe_callTy call_list_of (by rfl) B.list (by decide +kernel) (pa_cons (pv 1) pa_nil)) (pa_cons (pe_callTy call_tuple_of (by rfl) B.tuple (by decide +kernel) (pa_cons (pv 1) pa_nil)) pa_nil))) pa_nil))) pa_nil))), ?_⟩
    refine ⟨_, rfl, _, rfl, n, _, rfl, .inl (SqL.of hn), fun L hL => ?_⟩
    generalize hE : upd H L _ = H1
    have s1 : Same H H1 := hE ▸ same_upd hL
    have e1 := congrFun hE.symm L
    rw [upd_same] at e1
    clear hE
    refine ⟨_, rfl, n, _, rfl, .inl ⟨SqL.of (s1 _ _ hn), fun T5 hT5 => ?_⟩⟩
    generalize hE : upd H1 T5 _ = H2
    have s2 : Same H1 H2 := hE ▸ same_upd hT5
    have e2 := congrFun hE.symm T5
    rw [upd_same] at e2
    clear hE
    refine st_nil ⟨by show 2 ≤ sizeLine; decide, fun L2 hL2 => ?_⟩
    generalize hE : upd H2 L2 _ = H3
    have s3 : Same H2 H3 := hE ▸ same_upd hL2
    have e3 := congrFun hE.symm L2
    rw [upd_same] at e3
    clear hE
    have s13 : Same H H3 := s1.trans (s2.trans s3)
    obtain ⟨osp, hosp, xx, yy, cc, rfl, hok⟩ := id hsp
    have haL2 : a ≠ L2 := ne_of_none (s2 _ _ (s1 _ _ hosp)) hL2
    have haL : a ≠ L := ne_of_none hosp hL
    have haT : a ≠ T5 := ne_of_none (s1 _ _ hosp) hT5
    refine ⟨a, L2, _, m, rfl, haL2, hsp.same s13, by omega, e3, by show 0 < 2; decide, by show 2 ≤ 1000; decide, fun v o hv ho => ?_⟩
    have b4 : But a H3 (upd H3 a o) := But.upd
    have sp4 : SpAt (upd H3 a o) a (m + 1) := ⟨o, upd_same, ho⟩
    generalize upd H3 a o = H4 at b4 sp4
    obtain ⟨av, kd, rfl, hseq⟩ : ∃ (av : Addr) (kd : Kd), v = .ref av ∧ SeqAt2 H4 av (zs.map V.str) kd := by
      simp only [List.mem_cons, List.not_mem_nil, or_false] at hv
      rcases hv with rfl | rfl
      · exact ⟨L, .list, rfl, .inl ⟨b4 _ _ (Ne.symm haL) (s3 _ _ (s2 _ _ e1)), rfl⟩⟩
      · exact ⟨T5, .tup, rfl, .inr ⟨b4 _ _ (Ne.symm haT) (s3 _ _ e2), rfl⟩⟩
    refine st_nil fun x dx nx ndx nex => init_good nx ndx hseq hnd hnm hzl h2 hl fun t H5 hpt s5 => ⟨rfl, ?_⟩
    have sp5 := sp4.same s5
    obtain ⟨o3, ho3, x3, y3, c3, rfl, _⟩ := id sp5
    refine q x t H5 hpt (fun z => ?_) (fun z => ?_) sp5 ((Same.but s13).trans (b4.trans (Same.but s5)))
    · obtain ⟨dy, e⟩ := hpt.ob
      rw [z, ho3] at e; cases e
    · have e := hpt.tu
      rw [z, ho3] at e; cases e
theorem scWFar : FnScope ["source"] ["source"] (defScope sWFar) := ⟨rfl, rfl, rfl, by decide +kernel, rfl, by decide +kernel, by decide +kernel⟩
theorem ok_wfar {f fP : Addr} {fd fdP : FuncData} (F : Fun K "_law_w_far" "_law_w_far" sWFar f fd)
    (GP : FnOk P w K mg base CX0 2 fP fdP ["source", "some"] spPick) (bP : Binds K fdP ["source", "some"] []) (gP : mg "_law_pick" = some (.ref fP)) (kPb : PySem.W.keepIn K (.ref fP) = true) :
    FnOk P w K mg base CX0 3 f fd ["source"] spWFar := by
  refine F.ok scWFar (fun vs H Q E h => ?_) (fun cdv A outer s H vs Q E hr h => ?_)
  · obtain ⟨a, m, rfl, _⟩ := h
    rfl
  · obtain ⟨a, m, rfl, hsp, hm, q⟩ := h
    refine ⟨_, pss_one (ps_ret (pe_call GP hr (by rfl) gP kPb bP .nil pass0 (pa_cons (pv 0) (pa_cons (pe_lst (pa_cons pe_int (pa_cons pe_int (pa_cons pe_int (pa_cons pe_int (pa_cons (pe_op op_pow pe_int pe_int) (pa_cons (pe_op op_pow pe_int pe_int) pa_nil))))))) pa_nil)))), ?_⟩
    refine ⟨_, rfl, _, _, rfl, rfl, ⟨by decide, by decide, by decide⟩, _, _, rfl, rfl, ⟨by decide, by decide, by decide⟩, by show 6 ≤ sizeLine; decide, fun L hL => ?_⟩
    generalize hE : upd H L _ = H1
    have s1 : Same H H1 := hE ▸ same_upd hL
    have e1 := congrFun hE.symm L
    rw [upd_same] at e1
    clear hE
    obtain ⟨osp, hosp, hok⟩ := id hsp
    have haL : a ≠ L := ne_of_none hosp hL
    refine ⟨a, L, _, m, rfl, haL, hsp.same s1, by omega, e1, by show 0 < 6; decide, by show 6 ≤ 1000; decide, fun v o hv ho => ?_⟩
    obtain ⟨N, rfl, hN⟩ : ∃ N : Nat, v = .int (N : Nat) ∧ N ≤ 1000000000000000 := by
      simp only [List.mem_cons, List.not_mem_nil, or_false] at hv
      rcases hv with rfl | rfl | rfl | rfl | rfl | rfl
      · exact ⟨0, rfl, by decide⟩
      · exact ⟨1, rfl, by decide⟩
      · exact ⟨2, rfl, by decide⟩
      · exact ⟨3, rfl, by decide⟩
      · exact ⟨1000000, by decide +kernel, by decide⟩
      · exact ⟨1000000000000000, by decide +kernel, by decide⟩
    exact q N _ hN ⟨o, upd_same, ho⟩ ((Same.but s1).trans But.upd)
theorem scWLap : FnScope ["source", "far"] ["source", "far"] (defScope sWLap) := ⟨rfl, rfl, rfl, by decide +kernel, rfl, by decide +kernel, by decide +kernel⟩
theorem ok_wlap {f fD : Addr} {fd fdD : FuncData} (F : Fun K "_law_w_lap" "_law_w_lap" sWLap f fd)
    (GD : FnOk P w K mg base CX0 1 fD fdD ["source", "many"] spDraw) (bD : Binds K fdD ["source", "many"] []) (gD : mg "_law_draw" = some (.ref fD)) (kD : PySem.W.keepIn K (.ref fD) = true) :
    FnOk P w K mg base CX0 2 f fd ["source", "far"] spWLap := by
  refine F.ok scWLap (fun vs H Q E h => ?_) (fun cdv A outer s H vs Q E hr h => ?_)
  · obtain ⟨a, N, m, rfl, _⟩ := h
    rfl
  · obtain ⟨a, N, m, rfl, hN, hsp, hm, q⟩ := h
    have hr1 : Room 1 _ := hr.mono (by decide)
    refine ⟨_, pss_cons (ps_if (pt_cmpR op_lt (pv 1) pe_int (nomark _)) (pss_one (ps_ret (pe_op op_sub (pe_call GD hr1 (by rfl) gD kD bD .nil pass0 (pa_cons (pv 0) (pa_cons (pe_op op_add (pe_op op_mul pe_int (pv 1)) pe_int) pa_nil))) (pv 1)))) pss_nil)
      (pss_one (ps_ret (pe_op op_add (pe_op op_mul (pe_op op_sub (pe_call GD hr1 (by rfl) gD kD bD .nil pass0 (pa_cons (pv 0) (pa_cons pe_int pa_nil))) pe_int) (pe_op op_fdiv (pv 1) pe_int)) (pe_call GD hr1 (by rfl) gD kD bD .nil pass0 (pa_cons (pv 0) (pa_cons pe_int pa_nil)))))), ?_⟩
    refine ⟨_, rfl, _, _, rfl, rfl, _, rfl, ?_⟩
    refine ite2 (fun h1 => ?_) (fun h1 => ?_)
    · have h1' : N < 1000 := by have := of_decide_eq_true h1; omega
      refine ⟨_, rfl, _, rfl, _, _, rfl, rfl, .inl ⟨by decide, by decide⟩, _, _, rfl, rfl, a, 2 * (N : Int) + 1, m, rfl, by omega, by omega, hsp, by omega, fun r o h3 h4 ho => ?_⟩
      exact ⟨_, rfl, _, _, rfl, rfl, q (r - N) _ (by omega) ⟨o, upd_same, ho.mono (by omega)⟩ But.upd⟩
    · refine ⟨_, rfl, a, 2001, m, rfl, by decide, by decide, hsp, by omega, fun r o h3 h4 ho => ?_⟩
      have sp1 : SpAt (upd H a o) a (m + 1) := ⟨o, upd_same, ho⟩
      have b1 : But a H (upd H a o) := But.upd
      generalize upd H a o = H1 at sp1 b1
      refine ⟨_, _, rfl, rfl, _, rfl, _, _, rfl, rfl, ⟨by decide, by decide⟩, _, _, rfl, rfl, .inl ⟨by omega, by omega⟩, ?_⟩
      refine ⟨_, rfl, a, 1000, m + 1, rfl, by decide, by decide, sp1, by omega, fun r2 o2 h5 h6 ho2 => ?_⟩
      refine ⟨_, _, rfl, rfl, q ((r - 1000) * ((N : Int) / 1000) + r2) _ ?_ ⟨o2, upd_same, ho2⟩ (b1.trans But.upd)⟩
      have m1 : ((r - 1000) * ((N : Int) / 1000)).natAbs ≤ 1000 * 1000000000000 := by
        rw [Int.natAbs_mul]
        exact Nat.mul_le_mul (by omega) (by omega)
      omega
end
end RK

namespace RK
open PySem L2
/-! ### rows of places -/
theorem zw_sum {n s : Int} : ∀ {ls rs : List Int}, ls.length = rs.length → (List.zipWith (fun l r => n * l + r - s) ls rs).sum = n * ls.sum + rs.sum - (ls.length : Int) * s
  | [], [], _ => by simp
  | [], _ :: _, h => by simp at h
  | _ :: _, [], h => by simp at h
  | l :: ls, r :: rs, h => by
    rw [List.zipWith_cons_cons, List.sum_cons, List.sum_cons, List.sum_cons, zw_sum (Nat.succ.inj h), List.length_cons, Int.mul_add]
    have e : ((ls.length + 1 : Nat) : Int) * s = (ls.length : Int) * s + s := by rw [Int.natCast_add, Int.add_mul]; omega
    rw [e]
    omega
theorem zw_mod {n s : Int} : ∀ {ls rs : List Int}, ls.length = rs.length → (List.zipWith (fun l r => n * l + r - s) ls rs).map (fun x => x % n) = rs.map fun r => (r - s) % n
  | [], [], _ => rfl
  | [], _ :: _, h => by simp at h
  | _ :: _, [], h => by simp at h
  | l :: ls, r :: rs, h => by
    rw [List.zipWith_cons_cons, List.map_cons, List.map_cons, zw_mod (Nat.succ.inj h)]
    have e : (n * l + r - s) % n = (r - s) % n := by
      rw [show n * l + r - s = r - s + l * n by rw [Int.mul_comm]; omega, Int.add_mul_emod_self_right]
    rw [e]
def RowOk (n : Nat) (rs : List Int) : Prop := rs.length = n ∧ rs.sum = (n : Int) * ((n : Int) - 1) / 2 ∧ (rs.map fun x => x % (n : Int)).Nodup ∧ ∀ x ∈ rs, x.natAbs < 2 ^ 100
theorem mod_inj {n a b s : Int} (ha : 0 ≤ a ∧ a < n) (hb : 0 ≤ b ∧ b < n) (h : (a - s) % n = (b - s) % n) : a = b := by
  have h2 : (a - s - (b - s)) % n = 0 := Int.emod_eq_emod_iff_emod_sub_eq_zero.mp h
  rw [show a - s - (b - s) = a - b by omega] at h2
  obtain ⟨k, hk⟩ := mod_zero h2
  have hk0 : k = 0 := by
    by_cases q : k = 0
    · exact q
    · exfalso
      have h1 : n * 1 ≤ n * k.natAbs := Int.mul_le_mul_of_nonneg_left (by omega) (by omega)
      have h3 : (n * k).natAbs = n.natAbs * k.natAbs := Int.natAbs_mul _ _
      have h4 : n.natAbs * 1 ≤ n.natAbs * k.natAbs := Nat.mul_le_mul_left _ (by omega)
      rw [← h3, ← hk] at h4
      omega
  rw [hk0, Int.mul_zero] at hk
  omega
theorem row_ok {n : Nat} {ls rs : List Int} (h0 : 0 < n) (h20 : n ≤ 20) (hl : ls.length = n) (hr : rs.Perm ((List.range n).map fun i => ((i : Nat) : Int))) (hb : ∀ x ∈ ls, x.natAbs ≤ 2000000000000000) : RowOk n (List.zipWith (fun l r => (n : Int) * l + r - ls.sum) ls rs) := by
  have lr : rs.length = n := by rw [hr.length_eq, List.length_map, List.length_range]
  have hlr : ls.length = rs.length := by omega
  have hin : ∀ x ∈ rs, 0 ≤ x ∧ x < (n : Int) := fun x hx => by
    obtain ⟨i, hi, rfl⟩ := List.mem_map.mp (hr.mem_iff.mp hx)
    have := List.mem_range.mp hi
    omega
  have hnd : rs.Nodup := hr.nodup_iff.mpr (List.pairwise_map.mpr (List.Pairwise.imp (fun h e => h (by omega)) List.nodup_range))
  have sb := sum_le (N := 2000000000000000) hb
  rw [hl] at sb
  have p100 : (2 : Nat) ^ 100 = 1267650600228229401496703205376 := by decide
  refine ⟨by rw [List.length_zipWith, ← hlr, Nat.min_self, hl], ?_, ?_, fun x hx => ?_⟩
  · rw [zw_sum hlr, hl, sum_all hnd hin lr]
    omega
  · rw [zw_mod hlr]
    refine List.pairwise_map.mpr (List.Pairwise.imp_of_mem (fun {a b} ha hb ne e => ne (mod_inj (hin a ha) (hin b hb) e)) hnd)
  · obtain ⟨i, hi, e⟩ := List.mem_iff_getElem.mp hx
    rw [List.getElem_zipWith] at e
    rw [List.length_zipWith] at hi
    have h1 := hb _ (List.getElem_mem (show i < ls.length by omega))
    have h2 := hin _ (List.getElem_mem (show i < rs.length by omega))
    have h3 : ((n : Int) * ls[i]'(by omega)).natAbs ≤ 20 * 2000000000000000 := by
      rw [Int.natAbs_mul]
      exact Nat.mul_le_mul (by omega) h1
    have h4 : n * 2000000000000000 ≤ 20 * 2000000000000000 := Nat.mul_le_mul_right _ h20
    rw [p100, ← e]
    omega
def spWPlaces : Sp := fun vs H Q _ => ∃ (a : Addr) (n N m : Nat), vs = [.ref a, .int n, .int N] ∧ 0 < n ∧ n ≤ 20 ∧ N ≤ 1000000000000000 ∧ SpAt H a m ∧ m < 1000000000 ∧
  ∀ p (rs : List Int) H', H p = none → H' p = some (.lst (rs.map V.int)) → RowOk n rs → SpAt H' a (m + 100) → But a H H' → Q (.ref p) H'
section
variable {P : Program} {w : World} {K : PySem.W.Frag} {mg : Str → Option Value} {base : Heap} {C CB fB : Addr}
theorem scWPlaces : FnScope ["source", "many", "far", "laps", "k", "rests", "lap", "rest"] ["source", "many", "far"] (defScope sWPlaces) := ⟨rfl, rfl, rfl, by decide +kernel, rfl, by decide +kernel, by decide +kernel⟩
theorem ok_wplaces {f fL fM : Addr} {fd fdL fdM : FuncData} (F : Fun K "_law_w_places" "_law_w_places" sWPlaces f fd) (B : B0 K mg) (zsum : mg "sum" = none)
    (GL : FnOk P w K mg base CX0 2 fL fdL ["source", "far"] spWLap) (bL : Binds K fdL ["source", "far"] []) (gL : mg "_law_w_lap" = some (.ref fL)) (kL : PySem.W.keepIn K (.ref fL) = true)
    (GM : FnOk P w K mg base CX0 2 fM fdM ["source", "some"] spMixed) (bM : Binds K fdM ["source", "some"] []) (gM : mg "_law_mixed" = some (.ref fM)) (kM : PySem.W.keepIn K (.ref fM) = true) :
    FnOk P w K mg base CX0 3 f fd ["source", "many", "far"] spWPlaces := by
  refine F.ok scWPlaces (fun vs H Q E h => ?_) (fun cdv A outer s H vs Q E hr h => ?_)
  · obtain ⟨a, n, N, m, rfl, _⟩ := h
    rfl
  · obtain ⟨a, n, N, m, rfl, h0, h20, hN, hsp, hm, q⟩ := h
    refine ⟨_, pss_cons (ps_set (i := 3) scWPlaces.nd rfl (Or.inr rfl) (pe_lc (te := tCall spWLap [] E0 (tCons (tVar 0) (tCons (tVar 2) tNil))) (own := [("k", 4)]) (g := gName 4) (tt := tYes) rfl scWPlaces.nd (pi_range1 (by rfl) B.range (pa_cons (pv 1) pa_nil)) (blkOk_by (N := ["source", "many", "far", "laps", "k", "rests", "lap", "rest"]) (sc := defScope sWPlaces) (by decide +kernel))
        (fun _ _ _ _ _ => pg_name (i := 4) scWPlaces.nd rfl (Or.inl rfl)) (fun _ _ _ _ _ => pts_nil) (fun _ _ _ _ _ => by exact (pe_call GL hr (by rfl) gL kL bL .nil pass0 (pa_cons (pv 0) (pa_cons (pv 2) pa_nil))))))
      (pss_cons (ps_set (i := 5) scWPlaces.nd rfl (Or.inl rfl) (pe_call GM hr (by rfl) gM kM bM .nil pass0 (pa_cons (pv 0) (pa_cons (pe_listRg rfl (by rfl) B.list (prg_1 (by rfl) B.range (pv 1))) pa_nil))))
      (pss_one (ps_ret (pe_lc (te := tOp (rI0 fun i j => .int (i - j)) (tOp (rI0 fun i j => .int (i + j)) (tOp (rI CMul fun i j => .int (i * j)) (tVar 1) (tVar 6)) (tVar 7)) (tCB (rSum K) (tCons (tVar 3) tNil))) (own := [("lap", 6), ("rest", 7)]) (g := gTup K 2 (gCons (gName 6) (gCons (gName 7) gNil))) (tt := tYes) rfl scWPlaces.nd (pi_zip (by rfl) B.zip (pa_cons (pv 3) (pa_cons (pv 5) pa_nil)))
        (blkOk_by (N := ["source", "many", "far", "laps", "k", "rests", "lap", "rest"]) (sc := defScope sWPlaces) (by decide +kernel)) (fun _ _ _ _ _ => by exact (pg_tup rfl (pgs_cons (pg_name (i := 6) scWPlaces.nd rfl (Or.inl rfl)) (pgs_cons (pg_name (i := 7) scWPlaces.nd rfl (Or.inl rfl)) pgs_nil)))) (fun _ _ _ _ _ => pts_nil)
        (fun _ _ _ _ _ => by exact (pe_op op_sub (pe_op op_add (pe_op op_mul (pv 1) (pv 6)) (pv 7)) (pe_callB (cr_sum rfl) (by rfl) zsum (by decide +kernel) (pa_cons (pv 3) pa_nil)))))))), ?_⟩
    obtain ⟨osp, hosp, hok⟩ := id hsp
    -- laps
    refine ⟨_, rfl, n, rfl, by omega, by omega, fun D hD => ?_⟩
    have hDa : D ≠ a := fun e => by rw [e, hosp] at hD; cases hD
    refine lc_it (walk_range (lo := 0) (n := (n : Int).toNat)) (fun i G => ∃ ls : List Int, ls.length = i ∧ (∀ x ∈ ls, x.natAbs ≤ 2000000000000000) ∧ G D = some (.lst (ls.map V.int)) ∧ SpAt G a (m + 2 * i) ∧ But a H G)
      ⟨[], rfl, (fun _ z => nomatch z), upd_same, hsp.same (same_upd hD), Same.but (same_upd hD)⟩ (fun _ _ _ _ => True.intro) ?_ ?_
    · rintro i x G G' hi ⟨ls, hls, hlb, hacc, hspG, bG⟩ ⟨rfl, rfl⟩
      have hi' : i < n := by omega
      refine ⟨rfl, tyes ?_⟩
      refine ⟨_, rfl, _, rfl, a, N, _, rfl, hN, hspG, by omega, fun r G2 hr2 sp2 b2 => ⟨_, b2 _ _ hDa hacc, ?_, ls ++ [r], by rw [List.length_append, hls]; rfl, (fun x hx => (List.mem_append.mp hx).elim (hlb x) fun q => by rw [List.mem_singleton.mp q]; exact hr2), by rw [upd_same, List.map_append]; rfl, ?_, fun b u hb hu => ?_⟩⟩
      · rw [List.length_map, hls]
        exact Nat.lt_of_lt_of_le hi' (Nat.le_trans h20 (by decide))
      · obtain ⟨o, ho, hk⟩ := sp2
        exact ⟨o, by rw [upd_ne (Ne.symm hDa)]; exact ho, hk.mono (by omega)⟩
      · rw [upd_ne (ne_of_none hu hD)]
        exact b2 _ _ hb (bG _ _ hb hu)
    · rintro G ⟨ls, hls, hlb, hacc, hspG, bG⟩
      rw [Int.toNat_natCast] at hls hspG
      refine ⟨_, rfl, _, rfl, _, rfl, ?_⟩
      refine ⟨RgOk.of_le (by omega) (by omega) (by omega) (by omega), fun R hR => ?_⟩
      have erg : rgV 0 (n : Nat) = ((List.range n).map fun i => ((i : Nat) : Int)).map V.int := by
        unfold rgV
        rw [Int.sub_zero, Int.toNat_natCast, List.map_map]
        exact List.map_congr_left fun i _ => by rw [Int.zero_add]; rfl
      rw [erg]
      have s1 := same_upd (o := .lst (((List.range n).map fun i => ((i : Nat) : Int)).map V.int)) hR
      have rl : (((List.range n).map fun i => ((i : Nat) : Int)).map V.int).length = n := by rw [List.length_map, List.length_map, List.length_range]
      obtain ⟨oG, hoG, _⟩ := id hspG
      refine ⟨a, R, _, m + 2 * n, rfl, ne_of_none hoG hR, hspG.same s1, by omega, upd_same, by omega, fun p ys H2 hperm hp0 hp1 hsp2 b2 => ?_⟩
      rw [rl] at hsp2
      obtain ⟨rs, hrs, rfl⟩ := perm_ints hperm
      have lr : rs.length = n := by rw [hrs.length_eq, List.length_map, List.length_range]
      have b12 : But a G H2 := (Same.but s1).trans b2
      have hD2 := b12 _ _ hDa hacc
      have hpa : p ≠ a := fun e => by
        obtain ⟨o, ho, _⟩ := hspG.same s1
        rw [e] at hp0
        rw [ho] at hp0
        cases hp0
      refine ⟨_, rfl, _, rfl, D, p, _, _, rfl, SqL.of hD2, SqL.of hp1, fun L hL => ?_⟩
      have hLa : L ≠ a := fun e => by
        obtain ⟨o, ho, _⟩ := hsp2
        rw [e, ho] at hL; cases hL
      have hLG : H L = none := by
        cases q9 : H L with
        | none => rfl
        | some u => exact absurd (b12 _ _ hLa (bG _ _ hLa q9)) (by rw [hL]; exact fun z => nomatch z)
      refine lc_it (walk_zip (K := K) (a := D) (b := p) (xs := ls.map V.int) (ys := rs.map V.int) (n := n) (by rw [List.length_map, List.length_map, hls, lr, Nat.min_self])) (fun i G' => Same H2 G' ∧ G' L = some (.lst ((((List.zipWith (fun l r => (n : Int) * l + r - ls.sum) ls rs).take i)).map V.int)))
        ⟨same_upd hL, upd_same⟩ (fun i G' _ pv => ⟨SqL.of (pv.1 _ _ hD2), SqL.of (pv.1 _ _ hp1)⟩) ?_ ?_
      · rintro i x G1 G2 hi ⟨sm, hacc1⟩ ⟨T, x1, y1, rfl, hT, rfl, hx1, hy1⟩
        have hi1 : i < ls.length := by rw [hls]; exact hi
        have hi2 : i < rs.length := by rw [lr]; exact hi
        replace hx1 : (ls.map V.int)[i]? = some x1 := hx1
        replace hy1 : (rs.map V.int)[i]? = some y1 := hy1
        rw [List.getElem?_map, List.getElem?_eq_getElem hi1] at hx1
        rw [List.getElem?_map, List.getElem?_eq_getElem hi2] at hy1
        cases hx1
        cases hy1
        have sT := same_upd (o := .tup [V.int ls[i], .int rs[i]]) hT
        refine ⟨T, _, rfl, SqT.of upd_same, rfl, _, _, rfl, _, _, rfl, rfl, rfl, tyes ?_⟩
        have hDT := sT _ _ (sm _ _ hD2)
        have hLT := sT _ _ hacc1
        refine ⟨_, rfl, _, rfl, _, _, rfl, rfl, .inl ⟨by omega, by omega⟩, _, rfl, _, _, rfl, rfl, _, rfl, D, ls, rfl, SqL.of hDT, _, _, rfl, rfl, _, hLT, ?_, fun b u hb => ?_, ?_⟩
        · rw [List.length_map, List.length_take]
          exact Nat.lt_of_le_of_lt (Nat.le_trans (Nat.min_le_left _ _) (Nat.le_of_lt hi)) (Nat.lt_of_le_of_lt h20 (by decide))
        · rw [upd_ne (ne_of_none hb hL)]
          exact sT _ _ (sm _ _ hb)
        · have hz : (List.zipWith (fun l r => (n : Int) * l + r - ls.sum) ls rs)[i]? = some ((n : Int) * ls[i] + rs[i] - ls.sum) := by
            rw [List.getElem?_zipWith, List.getElem?_eq_getElem hi1, List.getElem?_eq_getElem hi2]
          rw [upd_same, take_more hz, List.map_append]
          rfl
      · rintro G1 ⟨sm, hacc1⟩
        have hzl : (List.zipWith (fun l r => (n : Int) * l + r - ls.sum) ls rs).length = n := by rw [List.length_zipWith, hls, lr, Nat.min_self]
        have htk : (List.zipWith (fun l r => (n : Int) * l + r - ls.sum) ls rs).take n = List.zipWith (fun l r => (n : Int) * l + r - ls.sum) ls rs := List.take_of_length_le (Nat.le_of_eq hzl)
        rw [htk] at hacc1
        refine q L _ G1 hLG hacc1 (row_ok h0 h20 hls hrs hlb) ?_ (bG.trans (b12.trans (Same.but sm)))
        obtain ⟨o, ho, hk⟩ := hsp2
        exact ⟨o, sm _ _ ho, hk.mono (by omega)⟩
end
end RK

namespace RK
open PySem L2
/-! ### a row as a dict; nets by places in the row -/
def rowG (zs : List Str) (rs : List Int) (z : Str) : Int := rs.getD (zs.idxOf z) 0
theorem row_at {zs : List Str} {rs : List Int} (nd : zs.Nodup) (hl : rs.length = zs.length) {i : Nat} (hi : i < zs.length) : rowG zs rs zs[i] = rs[i]'(by omega) := by
  unfold rowG
  rw [nd.idxOf_getElem i hi, List.getD_eq_getElem?_getD, List.getElem?_eq_getElem (by omega)]
  rfl
theorem zip_row {zs : List Str} {rs : List Int} (nd : zs.Nodup) (hl : rs.length = zs.length) : (zs.map V.str).zip (rs.map V.int) = (kvOf zs (rowG zs rs)).map fun kv => (kV kv.1, kv.2) := by
  have e : (kvOf zs (rowG zs rs)).map (fun kv => (kV kv.1, kv.2)) = zs.map fun u => (V.str u, V.int (rowG zs rs u)) := by
    unfold kvOf
    rw [List.map_map]
    rfl
  rw [e]
  refine List.ext_getElem (by rw [List.length_zip, List.length_map, List.length_map, List.length_map, hl, Nat.min_self]) fun i h1 h2 => ?_
  have hi : i < zs.length := by
    rw [List.length_map] at h2
    exact h2
  rw [List.getElem_zip, List.getElem_map, List.getElem_map, List.getElem_map, row_at nd hl hi]
theorem paired_map {α β γ : Type} {F : α → γ → Prop} {f : β → γ} : ∀ {ts : List α} {l : List β}, Paired F ts (l.map f) → Paired (fun t x => F t (f x)) ts l
  | _, [], h => by cases h; exact .nil
  | _, x :: l, h => by
    cases h with
    | cons h1 h2 => exact .cons h1 (paired_map h2)
theorem map_row {zs : List Str} {rs : List Int} (nd : zs.Nodup) (hl : rs.length = zs.length) : zs.map (rowG zs rs) = rs := by
  refine List.ext_getElem (by rw [List.length_map, hl]) fun i h1 h2 => ?_
  rw [List.getElem_map]
  exact row_at nd hl (by rw [List.length_map] at h1; exact h1)
theorem row_sta {zs : List Str} {rs : List Int} (nd : zs.Nodup) (h : RowOk zs.length rs) : Sta zs zs (kvOf zs (rowG zs rs)) := by
  obtain ⟨h1, h2, h3, h4⟩ := h
  refine Sta.mk' (List.Perm.refl _) ?_ ?_
  · rw [map_row nd h1, h2]
  · have e : (zs.map fun u => rowG zs rs u % (zs.length : Int)) = (zs.map (rowG zs rs)).map fun x => x % (zs.length : Int) := by rw [List.map_map]; rfl
    rw [e, map_row nd h1]
    exact h3
def netI (rs : List Int) (i j : Nat) : Int := (rs.getD i 0 - rs.getD j 0) / (rs.length : Int) - ((i : Int) - (j : Int)) / (rs.length : Int)
theorem net_row {zs : List Str} {rs : List Int} (nd : zs.Nodup) (hl : rs.length = zs.length) {a b : Str} (ha : a ∈ zs) (hb : b ∈ zs) : netP zs (kvOf zs (rowG zs rs)) a b = netI rs (zs.idxOf a) (zs.idxOf b) := by
  unfold netP qN netI rowG
  rw [place_kv ha, place_kv hb, hl]
def spWDict : Sp := fun vs H Q _ => ∃ (n r : Addr) (zs : List Str) (rs : List Int), vs = [.ref n, .ref r] ∧ H n = some (.lst (zs.map V.str)) ∧ H r = some (.lst (rs.map V.int)) ∧ rs.length = zs.length ∧ zs.Nodup ∧ zs.length ≤ 1000 ∧
  ∀ e H', H e = none → H' e = some (.dK (kvOf zs (rowG zs rs))) → Same H H' → Q (.ref e) H'
def spWNetB : Sp := fun vs H Q _ => ∃ (r : Addr) (rs : List Int) (i j : Nat), vs = [.ref r, .int i, .int j] ∧ H r = some (.lst (rs.map V.int)) ∧ i < rs.length ∧ j < rs.length ∧ rs.length ≤ 1000 ∧ Q (.int (netI rs i j)) H
section
variable {P : Program} {w : World} {K : PySem.W.Frag} {mg : Str → Option Value} {base : Heap} {C CB fB : Addr}
theorem scWHand : FnScope ["source", "thing"] ["source", "thing"] (defScope sWHand) := ⟨rfl, rfl, rfl, by decide +kernel, rfl, by decide +kernel, by decide +kernel⟩
theorem ok_handK {f fM : Addr} {fd fdM : FuncData} (F : Fun K "_law_w_handed" "_law_w_handed" sWHand f fd) (B : B0 K mg)
    (GM : FnOk P w K mg base CX0 2 fM fdM ["source", "some"] spMixed) (bM : Binds K fdM ["source", "some"] []) (gM : mg "_law_mixed" = some (.ref fM)) (kM : PySem.W.keepIn K (.ref fM) = true) :
    FnOk P w K mg base CX0 3 f fd ["source", "thing"] spHandK := by
  refine F.ok scWHand (fun vs H Q E h => ?_) (fun cdv A outer s H vs Q E hr h => ?_)
  · obtain ⟨a, d, ks, g, m, rfl, _⟩ := h
    rfl
  · obtain ⟨a, d, ks, g, m, rfl, had, hsp, hm, hd, hnd, hl, q⟩ := h
    refine ⟨_, pss_one (ps_ret (pe_callTy (call_dictP rfl) (by rfl) B.dict (by decide +kernel) (pa_cons (pe_call GM hr (by rfl) gM kM bM .nil pass0 (pa_cons (pv 0) (pa_cons (LiI.pe_listItems rfl (pv 1) (by rfl) B.list (by decide +kernel)) pa_nil))) pa_nil))), ?_⟩
    obtain ⟨osp, hosp, _⟩ := id hsp
    refine ⟨_, rfl, _, rfl, d, kvOf ks g, rfl, hd, fun H1 p ts s1 hp hts hpt e1 t1 => ?_⟩
    have kl : (kvOf ks g).length = ks.length := List.length_map _
    have tl : ts.length = (kvOf ks g).length := Paired.length t1
    have xl : (ts.map V.ref).length ≤ 1000 := by rw [List.length_map, tl, kl]; exact hl
    refine ⟨a, p, ts.map V.ref, m, rfl, ne_of_none hosp hp, SpAt.same hsp s1, by omega, e1, xl, fun p2 ys H2 hperm hp2 hp2' hsp2 b2 => ?_⟩
    obtain ⟨ts', hts', rfl⟩ := perm_refs hperm
    have t12 : Paired (fun (t : Addr) (kv : Key × V) => H2 t = some (.tup [kV kv.1, kv.2])) ts (kvOf ks g) := by
      refine Paired.mono (fun t kv h => ?_) t1
      refine b2 _ _ (fun q => ?_) h
      subst q
      have : H1 t = some osp := s1 _ _ hosp
      obtain ⟨o, ho, x, y, c, rfl, _⟩ := hsp
      rw [hosp] at ho
      cases ho
      rw [this] at h
      cases h
    obtain ⟨kvs', hkp, t2⟩ := paired_perm hts' t12
    obtain ⟨ks', hks, rfl⟩ := perm_kv hkp
    refine ⟨p2, ts', _, rfl, SqL.of hp2', Paired.mono (fun t kv h => SqT.of h) t2, fun e he => ?_⟩
    rw [merge_self (by rw [keys_kv]; exact nodup_keys (hks.nodup_iff.mpr hnd))]
    have b02 : But a H H2 := (Same.but s1).trans b2
    have he0 : H e = none := b02.free he hsp2.ne
    have s3 := same_upd (o := .dK (kvOf ks' g)) he
    have hea : e ≠ a := fun q => hsp2.ne (by rw [← q]; exact he)
    obtain ⟨o2, ho2, hok2⟩ := hsp2
    exact q e ks' _ he0 upd_same hks hea ⟨o2, s3 _ _ ho2, hok2.mono (by omega)⟩ (b02.trans (Same.but s3))
theorem scWDict : FnScope ["names", "row"] ["names", "row"] (defScope sWDict) := ⟨rfl, rfl, rfl, by decide +kernel, rfl, by decide +kernel, by decide +kernel⟩
theorem ok_wdict {f : Addr} {fd : FuncData} (F : Fun K "_law_w_dict" "_law_w_dict" sWDict f fd) (B : B0 K mg) : FnOk P w K mg base CX0 1 f fd ["names", "row"] spWDict := by
  refine F.ok scWDict (fun vs H Q E h => ?_) (fun cdv A outer s H vs Q E hr h => ?_)
  · obtain ⟨n, r, zs, rs, rfl, _⟩ := h
    rfl
  · obtain ⟨n, r, zs, rs, rfl, hn, hrr, hlr, hnd, hl, q⟩ := h
    refine ⟨_, pss_one (ps_ret (pe_callTy (call_dictP rfl) (by rfl) B.dict (by decide +kernel) (pa_cons (ZiL.pe_listZip rfl (by rfl) B.list (by decide +kernel) (by rfl) B.zip (pa_cons (pv 0) (pa_cons (pv 1) pa_nil))) pa_nil))), ?_⟩
    refine ⟨_, rfl, _, rfl, n, r, _, _, rfl, SqL.of hn, SqL.of hrr, by rw [List.length_map, List.length_map, hlr], fun H1 p ts s1 hp hts hpt e1 t1 => ?_⟩
    rw [zip_row hnd hlr] at t1
    refine st_nil ⟨p, ts, kvOf zs (rowG zs rs), rfl, SqL.of e1, Paired.mono (fun t kv h => SqT.of h) (paired_map (F := fun t (q : V × V) => H1 t = some (.tup [q.1, q.2])) (f := fun kv : Key × V => (kV kv.1, kv.2)) t1), fun e he => ?_⟩
    rw [merge_self (by rw [keys_kv]; exact nodup_keys hnd)]
    have sA : Same H H1 := s1
    exact q e _ (sA.free he) upd_same (sA.trans (same_upd he))
end
end RK

namespace RK
open PySem L2
/-! ### the first stranger, a row needed -/
def strange (zs : List Str) : List V → List V → Option Nat
  | _, [] => none
  | seen, x :: r => if (walkB zs x && !decide (x ∈ seen)) = true then strange zs (seen ++ [x]) r else some seen.length
def strangeV (zs : List Str) (xs : List V) : V := match strange zs [] xs with
  | some i => .int i
  | none => .non
theorem strange_good {zs : List Str} {seen r : List V} {x : V} (h1 : walkB zs x = true) (h2 : x ∉ seen) : strange zs seen (x :: r) = strange zs (seen ++ [x]) r := by
  show (if _ then _ else _) = _
  rw [h1, decide_eq_false h2]
  rfl
theorem strange_bad1 {zs : List Str} {seen r : List V} {x : V} (h1 : walkB zs x = false) : strange zs seen (x :: r) = some seen.length := by
  show (if _ then _ else _) = _
  rw [h1]
  rfl
theorem strange_bad2 {zs : List Str} {seen r : List V} {x : V} (h2 : x ∈ seen) : strange zs seen (x :: r) = some seen.length := by
  show (if _ then _ else _) = _
  rw [decide_eq_true h2, Bool.not_true, Bool.and_false]
  rfl
/-- the index of what is wrong with a row of the others -/
def rowWrong (os : List Str) (xs : List V) : Option Nat := match strange os [] xs with
  | some i => some i
  | none => if xs.length < os.length then some xs.length else none
def spStrangerK (K : PySem.W.Frag) : Sp := fun vs H Q _ => ∃ (n a : Addr) (zs : List Str) (xs : List V) (k : Kd), vs = [.ref n, .ref a] ∧ H n = some (.lst (zs.map V.str)) ∧ SeqAt2 H a xs k ∧ xs.length ≤ 1000 ∧ (∀ x ∈ xs, ∃ kx, Th K H x kx) ∧ ∀ H', Same H H' → Q (strangeV zs xs) H'
def spNeedRow (K : PySem.W.Frag) (CR : Addr) : Sp := fun vs H Q E => ∃ (n : Addr) (os : List Str) (v : V) (k : Kd), vs = [.ref n, v] ∧ H n = some (.lst (os.map V.str)) ∧ Th K H v k ∧
  (k.isSeq = false → ∀ d H', Same H H' → H' d = some (.xd [("index", .int 0)]) → E (.ref CR) (some d) H') ∧
  (k.isSeq = true → ∃ a xs, v = .ref a ∧ SeqAt2 H a xs k ∧ xs.length ≤ 1000 ∧ (∀ x ∈ xs, ∃ kx, Th K H x kx) ∧
    (∀ i, rowWrong os xs = some i → ∀ d H', Same H H' → H' d = some (.xd [("index", .int (i : Nat))]) → E (.ref CR) (some d) H') ∧ (rowWrong os xs = none → ∀ H', Same H H' → Q .non H'))
section
variable {P : Program} {w : World} {K : PySem.W.Frag} {mg : Str → Option Value} {base : Heap} {CR fRe : Addr}
theorem scStranger : FnScope ["names", "things", "index", "thing"] ["names", "things"] (defScope sStranger) := ⟨rfl, rfl, rfl, by decide +kernel, rfl, by decide +kernel, by decide +kernel⟩
theorem ok_stranger {f fW : Addr} {fd fdW : FuncData} (F : Fun K "first_stranger" "first_stranger" sStranger f fd) (B : B0 K mg)
    (GW : FnOk P w K mg base CX0 1 fW fdW ["names", "thing"] (spIsWalker K)) (bW : Binds K fdW ["names", "thing"] []) (gW : mg "is_walker" = some (.ref fW)) (kW : PySem.W.keepIn K (.ref fW) = true) :
    FnOk P w K mg base CX0 2 f fd ["names", "things"] (spStrangerK K) := by
  refine F.ok scStranger (fun vs H Q E h => ?_) (fun cdv A outer s H vs Q E hr h => ?_)
  · obtain ⟨n, a, zs, xs, k, rfl, _⟩ := h
    rfl
  · obtain ⟨n, a, zs, xs, k, rfl, hn, hsq, hlen, hth, q⟩ := h
    have hr1 : Room 1 _ := hr.mono (by decide)
    refine ⟨_, pss_cons (ps_for PassesOwn.never rfl (pi_enumA (by rfl) B.enum (pa_cons (pv 1) pa_nil)) (pg_tup rfl (pgs_cons (pg_name (i := 2) scStranger.nd rfl (Or.inl rfl)) (pgs_cons (pg_name (i := 3) scStranger.nd rfl (Or.inl rfl)) pgs_nil)))
        (pss_one (ps_if (PW.pt (pw_or (pt_not (pt_val (pe_call GW hr1 (by rfl) gW kW bW .nil pass0 (pa_cons (pv 0) (pa_cons (pv 3) pa_nil))))) (pw_or1 (pt_cmpR op_in_seq (pv 3) (pe_slice (SlR.or sl_list sl_tup) (pv 1) po_none (po_some (pv 2))) rfl)))) (pss_one (ps_ret (pv 2))) pss_nil)))
      (pss_one (ps_ret pe_non)), ?_⟩
    have hq0 : SqL K H a xs ∨ SqT K H a xs := hsq.elim (fun e => .inl (SqL.of e.1)) fun e => .inr (SqT.of e.1)
    refine ⟨_, rfl, a, xs, rfl, for_enumA hq0 (fun i σ H' => ∃ (w2 w3 : Option V) (us : List Str), σ = [some (.ref n), some (.ref a), w2, w3] ∧ xs.take i = us.map V.str ∧ strange zs [] xs = strange zs (xs.take i) (xs.drop i) ∧ Same H H') ⟨none, none, [], rfl, rfl, rfl, Same.refl H⟩ (fun q i σ' H' ⟨_, _, _, _, _, _, sm⟩ => ?_) (fun q i σ' H' ⟨_, _, _, _, _, _, sm⟩ => ?_) ?_ ?_⟩
    · exact seqL_keep (d := a + 1) q (Nat.ne_of_lt (Nat.lt_succ_self a)) fun b o _ e => sm b o e
    · exact seqT_keep (d := a + 1) q (Nat.ne_of_lt (Nat.lt_succ_self a)) fun b o _ e => sm b o e
    · rintro i y T σ H' hy ⟨w2, w3, us, rfl, htk, hsc, sm⟩ hT
      have hym : y ∈ xs := List.mem_of_getElem? hy
      obtain ⟨ky, hky⟩ := hth y hym
      have smT : Same H' (upd H' T (.tup [.int (i : Nat), y])) := same_upd hT
      have hil : i < xs.length := (List.getElem?_eq_some_iff.mp hy).1
      have hlen_i : (xs.take i).length = i := by
        rw [List.length_take]
        omega
      refine ⟨T, _, rfl, SqT.of upd_same, rfl, _, _, rfl, _, _, rfl, rfl, ?_⟩
      generalize upd H' T (.tup [.int (i : Nat), y]) = H1 at smT
      have sm1 : Same H H1 := sm.trans smT
      refine ⟨_, rfl, _, rfl, n, zs, y, ky, rfl, sm1 _ _ hn, hky.same sm1, fun H2 sm2 => ⟨walkB zs y, rfl, ?_⟩⟩
      have s2 : Same H H2 := sm1.trans sm2
      cases hw : walkB zs y with
      | false =>
        have hx : strange zs [] xs = some i := by rw [hsc, drop_at hy, strange_bad1 hw, hlen_i]
        refine iteT (iteT ⟨_, rfl, ?_⟩)
        have h := q H2 s2
        unfold strangeV at h
        rw [hx] at h
        exact h
      | true =>
        refine iteF ?_
        obtain ⟨z, rfl⟩ : ∃ z, y = .str z := by
          cases y <;> first | exact ⟨_, rfl⟩ | cases hw
        have cut : cutV xs none (some (i : Int)) = us.map V.str := by rw [cut_take (Nat.le_of_lt hil), htk]
        have hfl : (us.map V.str).all flatV = true := List.all_eq_true.mpr fun y hy => by
          obtain ⟨z, _, rfl⟩ := List.mem_map.mp hy
          rfl
        refine ⟨_, rfl, _, rfl, _, rfl, (i : Int), rfl, ?_⟩
        rcases hsq with ⟨e, rfl⟩ | ⟨e, rfl⟩
        · refine .inl ⟨a, xs, rfl, SqL.of (s2 _ _ e), fun p hp => ?_⟩
          rw [cut]
          have sp := same_upd (o := .lst (us.map V.str)) hp
          have ep : (upd H2 p (.lst (us.map V.str))) p = some (.lst (us.map V.str)) := upd_same
          generalize upd H2 p (.lst (us.map V.str)) = H3 at sp ep
          refine ⟨p, us.map V.str, rfl, .inl (SqL.of ep), rfl, hfl, _, rfl, ?_⟩
          have s3 : Same H H3 := s2.trans sp
          rw [show (if false = true then !inV (V.str z) (us.map V.str) else inV (V.str z) (us.map V.str)) = decide (z ∈ us) from in_names]
          refine ite2 (fun hin => ?_) (fun hin => ?_)
          · have hin' : z ∈ us := of_decide_eq_true hin
            have hx : strange zs [] xs = some i := by rw [hsc, drop_at hy, strange_bad2 (by rw [htk]; exact List.mem_map.mpr ⟨z, hin', rfl⟩), hlen_i]
            refine ⟨_, rfl, ?_⟩
            have h := q H3 s3
            unfold strangeV at h
            rw [hx] at h
            exact h
          · have hin' : V.str z ∉ us.map V.str := fun hm => by
              obtain ⟨u, hu, e⟩ := List.mem_map.mp hm
              cases e
              exact hin (decide_eq_true hu)
            refine ⟨_, _, us ++ [z], rfl, ?_, ?_, s3⟩
            · rw [take_more hy, htk, List.map_append]; rfl
            · rw [hsc, drop_at hy, strange_good hw (by rw [htk]; exact hin'), take_more hy]
        · refine .inr ⟨a, xs, rfl, SqT.of (s2 _ _ e), fun hh => ?_, fun p hp => ?_⟩
          · have h2 := hh.2
            rw [HT.sIx_nat, Nat.min_eq_left (Nat.le_of_lt hil)] at h2
            omega
          rw [cut]
          have sp := same_upd (o := .tup (us.map V.str)) hp
          have ep : (upd H2 p (.tup (us.map V.str))) p = some (.tup (us.map V.str)) := upd_same
          generalize upd H2 p (.tup (us.map V.str)) = H3 at sp ep
          refine ⟨p, us.map V.str, rfl, .inr (SqT.of ep), rfl, hfl, _, rfl, ?_⟩
          have s3 : Same H H3 := s2.trans sp
          rw [show (if false = true then !inV (V.str z) (us.map V.str) else inV (V.str z) (us.map V.str)) = decide (z ∈ us) from in_names]
          refine ite2 (fun hin => ?_) (fun hin => ?_)
          · have hin' : z ∈ us := of_decide_eq_true hin
            have hx : strange zs [] xs = some i := by rw [hsc, drop_at hy, strange_bad2 (by rw [htk]; exact List.mem_map.mpr ⟨z, hin', rfl⟩), hlen_i]
            refine ⟨_, rfl, ?_⟩
            have h := q H3 s3
            unfold strangeV at h
            rw [hx] at h
            exact h
          · have hin' : V.str z ∉ us.map V.str := fun hm => by
              obtain ⟨u, hu, e⟩ := List.mem_map.mp hm
              cases e
              exact hin (decide_eq_true hu)
            refine ⟨_, _, us ++ [z], rfl, ?_, ?_, s3⟩
            · rw [take_more hy, htk, List.map_append]; rfl
            · rw [hsc, drop_at hy, strange_good hw (by rw [htk]; exact hin'), take_more hy]
    · rintro σ H' ⟨w2, w3, us, rfl, htk, hsc, sm⟩
      rw [List.take_length, List.drop_length] at hsc
      have h := q H' sm
      unfold strangeV at h
      rw [hsc] at h
      exact h
end
end RK

/-! a walk straight over the items of a fresh dict: it is locked from then on -/
namespace L2
open PySem PySem.Spec PyProof.Rows
/-- the dict is locked here, and stays so -/
def iItemsF (td : TE) : TI := fun σ H R => td σ H fun x H1 => ∃ d kvs, x = .ref d ∧ H1 d = some (.dK kvs) ∧ ∀ o, R (Iti d o kvs) (upd H1 d (.frz o (.dK kvs)))
section
variable {X : Cx} {tg e : Expr} {td : TE} {apos cpos : Pos}
theorem pi_itemsF {elts : List Expr} {kk : Nat} {tpos : Pos} (he : PE X e td) (hbase : attributeBase e "items" X.env (eval e X.env) = eval e X.env := by rfl) (hline : (apos.endLine == cpos.line) = true := by rfl) :
    PI X (.Tuple elts kk tpos) (.Call (.Attribute e "items" apos) [] [] cpos) (iItemsF td) := by
  refine ⟨fun pins s σ H R I h => ?_⟩
  refine wpAny_Call_method (T := "dict") (id := "dict.items") hbase rfl hline F.plainAttrs_dict F.slot_dict_items F.type_dict_items (thn (he.run pins s σ H _ I h) fun u s1 ⟨x, H1, I1, rx, d, kvs, ex, hd0, q0⟩ => ?_)
  subst ex
  obtain rfl : u = Value.ref d := rx
  obtain ⟨o, I1'⟩ := I1.lock hd0 trivial
  have q := q0 o
  have hd : (upd H1 d (.frz o (.dK kvs))) d = some (.frz o (.dK kvs)) := upd_same
  obtain ⟨hs, hgd, hx, es, ep, vs, hdt, hsz, kv, hm⟩ := I1'.frzK hd
  have hl : kvs.length = vs.length := Paired.length kv
  refine ⟨hm.dictOf.typeIs, hm.dictOf.mapOf.noDict, ?_⟩
  have I2 : Inv X pins σ _ { s1 with heap := s1.heap.push { cls := .type "dict_items", data := .fields #[.ref d] } } := I1'.kept (t' := s1.toks) fun b ob q => Heap.get?_push_of_some _ q
  have fin : wpAny (model X.prog X.w) X.A (pyIter (.ref s1.heap.objs.size)) (PIE X pins σ (.Tuple elts kk tpos) R) X.xe { s1 with heap := s1.heap.push { cls := .type "dict_items", data := .fields #[.ref d] } } := by
    refine wpAny_pyIter_items (d := d) (knd := mixKind X.prog X.w) ⟨_, Heap.get?_push_size _ rfl, rfl, rfl⟩ (hm.push _) (pi_one (tk := s1.toks) I2 _ (turn_items _ hdt) ⟨.none, .none, ?_⟩ q)
    rw [hl]
    exact Heap.get?_push_size _ rfl
  show wpAny _ _ (callWith cpos (.builtin "dict.items") [.ref d] [] []) _ X.xe s1
  exact method_meetsIn F.slot_dict_items F.entry_dict_items rfl (PySem.evalArgs_none ⟨rfl, hm.dictOf.typeIs, F.args_dict_items_1 _, _, meets_dict_items (mixKind X.prog X.w) d hs, ⟨vs, hm.dictOf⟩, fin⟩)
end
end L2

namespace RK
open PySem L2
section
variable {K : PySem.W.Frag} {n D : Addr} {zs : List Str} {i : Nat} {vs : List Nat} {te : TE} {tt : TT} {σ : St} {H1 : Hp} {Qd : Hp → Prop} {p : Str → Bool} {f : Str → V}
theorem lcF_it (p : Str → Bool) (f : Str → V) (hn : H1 n = some (.lst (zs.map V.str))) (hD : H1 D = none) (hl : zs.length ≤ 1000)
    (hw : ∀ x, wipe ((wipe σ vs).set i (some x)) vs = wipe σ vs)
    (ht : ∀ z ∈ zs, ∀ G (Q : Bool → Hp → Prop), Same H1 G → Q (p z) G → tt ((wipe σ vs).set i (some (.str z))) G Q)
    (hv : ∀ z ∈ zs, p z = true → ∀ G (Q : VK), Same H1 G → Q (f z) G → te ((wipe σ vs).set i (some (.str z))) G Q)
    (hd : ∀ G, Same H1 G → G D = some (.lst ((zs.filter p).map f)) → Qd G) :
    ∃ W : Nat → Nat → Hp → Prop, (∃ m, W 0 m (upd H1 D (.lst []))) ∧ ∀ j m H, W j m H →
      ((Itl K n).stop j H ∧ Qd H) ∨ ((Itl K n).go j H ∧ ∃ Nx : Hp → Prop, (∀ H', Nx H' → ∃ m', m' < m ∧ W (j + 1) m' H') ∧ ∀ x H', (Itl K n).yld j H x H' → gName i x (wipe σ vs) H' fun σ2 H2 => wipe σ2 vs = wipe σ vs ∧ tt σ2 H2 fun b H3 =>
        if b = true then te σ2 H3 fun y H4 => ∃ acc, H4 D = some (.lst acc) ∧ acc.length < sizeLine ∧ Nx (upd H4 D (.lst (acc ++ [y]))) else Nx H3) := by
  refine lc_it (walk_list (K := K) (a := n) (xs := zs.map V.str)) (fun j G => Same H1 G ∧ G D = some (.lst (((zs.take j).filter p).map f))) ⟨same_upd hD, upd_same⟩ (fun j G _ q => SqL.of (q.1 _ _ hn)) ?_ ?_
  · rintro j x G1 G2 hj ⟨sm, hacc⟩ ⟨rfl, hx⟩
    obtain ⟨z, hz, hzm, rfl⟩ := name_at hx
    refine ⟨hw _, ht z hzm _ _ sm ?_⟩
    rw [take_more hz, List.filter_append]
    cases hp : p z with
    | true =>
      refine iteT (hv z hzm hp _ _ sm ?_)
      have ef : [z].filter p = [z] := by rw [List.filter_cons, if_pos hp]; rfl
      rw [ef]
      refine ⟨_, hacc, ?_, fun b o hb => ?_, by rw [upd_same, List.map_append]; rfl⟩
      · have l1 := List.length_filter_le p (zs.take j)
        rw [List.length_take] at l1
        rw [List.length_map]
        exact Nat.lt_of_le_of_lt (Nat.le_trans l1 (Nat.le_trans (Nat.min_le_right _ _) hl)) (by decide)
      · rw [upd_ne (ne_of_none hb hD)]
        exact sm _ _ hb
    | false =>
      refine iteF ?_
      have ef : [z].filter p = [] := by rw [List.filter_cons, if_neg (by rw [hp]; exact Bool.false_ne_true)]; rfl
      rw [ef, List.append_nil]
      exact ⟨sm, hacc⟩
  · rintro G ⟨sm, hacc⟩
    rw [List.length_map, List.take_length] at hacc
    exact hd G sm hacc
end
section
variable {K : PySem.W.Frag} {n D : Addr} {zs : List Str} {i : Nat} {vs : List Nat} {tk tv : TE} {σ : St} {H1 : Hp} {Qd : Hp → Prop}
theorem dcG_it (f : Str → Int) (hn : H1 n = some (.lst (zs.map V.str))) (hnd : zs.Nodup) (hD : H1 D = none) (hl : zs.length ≤ 1000)
    (hw : ∀ x, wipe ((wipe σ vs).set i (some x)) vs = wipe σ vs)
    (hk : ∀ z G (Q : VK), Q (.str z) G → tk ((wipe σ vs).set i (some (.str z))) G Q)
    (hv : ∀ z ∈ zs, ∀ G (Q : VK), Same H1 G → Q (.int (f z)) G → tv ((wipe σ vs).set i (some (.str z))) G Q)
    (hd : ∀ G, Same H1 G → G D = some (.dK (kvOf zs f)) → Qd G) :
    ∃ W : Nat → Nat → Hp → Prop, (∃ m, W 0 m (upd H1 D (.dK []))) ∧ ∀ j m H, W j m H →
      ((Itl K n).stop j H ∧ Qd H) ∨ ((Itl K n).go j H ∧ ∃ Nx : Hp → Prop, (∀ H', Nx H' → ∃ m', m' < m ∧ W (j + 1) m' H') ∧ ∀ x H', (Itl K n).yld j H x H' → gName i x (wipe σ vs) H' fun σ2 H2 => wipe σ2 vs = wipe σ vs ∧ tYes σ2 H2 fun b H3 =>
        if b = true then tk σ2 H3 fun y H4 => tv σ2 H4 fun z H5 => ∃ kvs k, y = kV k ∧ H5 D = some (.dK kvs) ∧ kvs.length < sizeLine ∧ Nx (upd H5 D (.dK (putK kvs k z))) else Nx H3) := by
  refine dc_it (walk_list (K := K) (a := n) (xs := zs.map V.str)) (fun j G => Same H1 G ∧ G D = some (.dK (kvOf (zs.take j) f))) ⟨same_upd hD, upd_same⟩ (fun j G _ q => SqL.of (q.1 _ _ hn)) ?_ ?_
  · rintro j x G1 G2 hj ⟨sm, hacc⟩ ⟨rfl, hx⟩
    obtain ⟨z, hz, hzm, rfl⟩ := name_at hx
    refine ⟨hw _, tyes (hk z _ _ (hv z hzm _ _ sm ?_))⟩
    refine ⟨_, (Sum.inr z : Key), rfl, hacc, ?_, fun b u hb => ?_, ?_⟩
    · unfold kvOf
      rw [List.length_map, List.length_take]
      exact Nat.lt_of_le_of_lt (Nat.le_trans (Nat.min_le_right _ _) hl) (by decide)
    · rw [upd_ne (ne_of_none hb hD)]
      exact sm _ _ hb
    · rw [upd_same, put_new (fun kv hkv e => ?_), take_more hz]
      · unfold kvOf
        rw [List.map_append]
        rfl
      · unfold kvOf at hkv
        obtain ⟨y2, hy4, rfl⟩ := List.mem_map.mp hkv
        exact nodup_take hnd hz (Sum.inr.inj e ▸ hy4)
  · rintro G ⟨sm, hacc⟩
    rw [List.length_map, List.take_length] at hacc
    exact hd G sm hacc
end
theorem st_name {i : Nat} {v : V} {σ : St} {H : Hp} {Q : St → Hp → Prop} (h : Q (σ.set i (some v)) H) : gName i v σ H Q := h
/-! ### photos -/
def Bad (fld : Str) (C : Addr) (v : V) (H : Hp) (E : XK) : Prop := ∀ d H', Same H H' → H' d = some (.xd [(fld, v)]) → E (.ref C) (some d) H'
theorem Bad.same {fld : Str} {C : Addr} {v : V} {H H1 : Hp} {E : XK} (h : Bad fld C v H E) (s : Same H H1) : Bad fld C v H1 E := fun d H' s2 e => h d H' (s.trans s2) e
def photoB (zs : List Str) (xs : List V) : Bool := decide (V.int (xs.length : Nat) = V.int (zs.length : Nat)) && decide (strangeV zs xs = .non)
def restK (os : List Str) : Str → Int := fun z => ((os.idxOf z : Nat) : Int)
def overB (n a b c d : Int) : Int := (a + c - b - d) / n - (a - b) / n
def absI (i : Int) : Int := if i < 0 then -i else i
def fewB (zs : List Str) (f g : Str → Int) : Int := ((pairsAhead zs).map fun p => absI (overB (zs.length : Int) (f p.1) (f p.2) (g p.1) (g p.2))).sum
def behR (zs : List Str) (f g : Str → Int) : Str → Int := fun z => (f z + g z) % (zs.length : Int)
def gain0 (zs : List Str) (kvs : List (Key × V)) : Bool := dictB zs kvs && decide ((zs.map (placeOf kvs)).sum = 0)
def gainsB (zs os : List Str) (kvs : List (Key × V)) : Bool := gain0 zs kvs && decide (((zs.map (behR zs (restK os) (placeOf kvs))).Nodup))
def areB (zs os ls : List Str) (kvs : List (Key × V)) : Bool := gain0 zs kvs && zs.all fun z => decide (behR zs (restK os) (placeOf kvs) z = restK ls z)
def spListOfG (K : PySem.W.Frag) : Sp := fun vs H Q _ => ∃ (many : Int) (v : V) (k : Kd), vs = [.int many, v] ∧ Th K H v k ∧ (k.isSeq = false → ∀ H', Same H H' → Q (.bl false) H') ∧
  (k.isSeq = true → ∃ a xs, v = .ref a ∧ SeqAt2 H a xs k ∧ ∀ H', Same H H' → Q (.bl (decide (V.int (xs.length : Nat) = V.int many))) H')
def spIsPhoto (K : PySem.W.Frag) : Sp := fun vs H Q _ => ∃ (n : Addr) (zs : List Str) (v : V) (k : Kd), vs = [.ref n, v] ∧ H n = some (.lst (zs.map V.str)) ∧ Th K H v k ∧ (k.isSeq = false → ∀ H', Same H H' → Q (.bl false) H') ∧
  (k.isSeq = true → ∃ a xs, v = .ref a ∧ SeqAt2 H a xs k ∧ xs.length ≤ 1000 ∧ (∀ x ∈ xs, ∃ kx, Th K H x kx) ∧ ∀ H', Same H H' → Q (.bl (photoB zs xs)) H')
def spNeedPhoto (K : PySem.W.Frag) (CF : Addr) : Sp := fun vs H Q E => ∃ (n : Addr) (zs : List Str) (v : V) (k : Kd), vs = [.ref n, v] ∧ H n = some (.lst (zs.map V.str)) ∧ Th K H v k ∧ (k.isSeq = false → Bad "photo" CF v H E) ∧
  (k.isSeq = true → ∃ a xs, v = .ref a ∧ SeqAt2 H a xs k ∧ xs.length ≤ 1000 ∧ (∀ x ∈ xs, ∃ kx, Th K H x kx) ∧ (photoB zs xs = false → Bad "photo" CF v H E) ∧ (photoB zs xs = true → ∀ H', Same H H' → Q .non H'))
def PhotoT (K : PySem.W.Frag) (CF : Addr) (zs : List Str) (v : V) (H : Hp) (E : XK) (next : List Str → Prop) : Prop :=
  ∃ k, Th K H v k ∧ (k.isSeq = false → Bad "photo" CF v H E) ∧ (k.isSeq = true → ∃ a xs, v = .ref a ∧ SeqAt2 H a xs k ∧ xs.length ≤ 1000 ∧ (∀ x ∈ xs, ∃ kx, Th K H x kx) ∧ (photoB zs xs = false → Bad "photo" CF v H E) ∧ (photoB zs xs = true → ∃ os, xs = os.map V.str ∧ os.Perm zs ∧ next os))
/-- the photo is asked -/
theorem PhotoT.sp {K : PySem.W.Frag} {CF n : Addr} {zs : List Str} {v : V} {H H1 : Hp} {Q : VK} {E : XK} {next : List Str → Prop} (h : PhotoT K CF zs v H E next) (s : Same H H1) (hn : H1 n = some (.lst (zs.map V.str)))
    (q : ∀ a os k H', v = .ref a → SeqAt2 H' a (os.map V.str) k → os.Perm zs → next os → Same H1 H' → Q .non H') : spNeedPhoto K CF [.ref n, v] H1 Q E := by
  obtain ⟨k, ht, bad, good⟩ := h
  refine ⟨n, zs, v, k, rfl, hn, ht.same s, fun hk => (bad hk).same s, fun hk => ?_⟩
  obtain ⟨a, xs, rfl, hsq, hl, hth, b2, g2⟩ := good hk
  refine ⟨a, xs, rfl, hsq.same s, hl, fun x hx => let ⟨kx, e⟩ := hth x hx; ⟨kx, e.same s⟩, fun hb => (b2 hb).same s, fun hb H' s' => ?_⟩
  obtain ⟨os, rfl, hp, hx⟩ := g2 hb
  exact q a os k H' rfl ((hsq.same s).same s') hp hx s'
def spRestsIn : Sp := fun vs H Q _ => ∃ (a : Addr) (os : List Str) (k : Kd), vs = [.ref a] ∧ SeqAt2 H a (os.map V.str) k ∧ os.Nodup ∧ os.length ≤ 1000 ∧ ∀ d H', H d = none → H' d = some (.dK (kvOf os (restK os))) → Same H H' → Q (.ref d) H'
def spOverBy : Sp := fun vs H Q _ => ∃ (n a b c d : Int), vs = [.int n, .int a, .int b, .int c, .int d] ∧ 0 < n ∧ n ≤ 1000 ∧ Q (.int (overB n a b c d)) H
def spFewestBy : Sp := fun vs H Q _ => ∃ (n r d : Addr) (zs : List Str) (rk kvs : List (Key × V)) (f g : Str → Int), vs = [.ref n, .ref r, .ref d] ∧ H n = some (.lst (zs.map V.str)) ∧ H r = some (.dK rk) ∧ H d = some (.dK kvs) ∧ (∀ z ∈ zs, valV rk (Sum.inr z : Key) = some (.int (f z))) ∧ (∀ z ∈ zs, valV kvs (Sum.inr z : Key) = some (.int (g z))) ∧ zs.Nodup ∧ 0 < zs.length ∧ zs.length ≤ 1000 ∧
  ∀ H', Same H H' → Q (.int (fewB zs f g)) H'
def spRestsBehind : Sp := fun vs H Q _ => ∃ (n a d : Addr) (zs os : List Str) (kvs : List (Key × V)) (g : Str → Int) (k : Kd), vs = [.ref n, .ref a, .ref d] ∧ H n = some (.lst (zs.map V.str)) ∧ SeqAt2 H a (os.map V.str) k ∧ H d = some (.dK kvs) ∧ (∀ z ∈ zs, valV kvs (Sum.inr z : Key) = some (.int (g z))) ∧ os.Perm zs ∧ zs.Nodup ∧ 0 < zs.length ∧ zs.length ≤ 1000 ∧
  ∀ e H', H e = none → H' e = some (.dK (kvOf zs (behR zs (restK os) g))) → Same H H' → Q (.ref e) H'
def PathT (K : PySem.W.Frag) (C CP : Addr) (v : V) (H : Hp) (E : XK) (next : List Str → Prop) : Prop :=
  (∃ k, Th K H v k ∧ Bad "thing" CP v H E) ∨ ∃ p t zs, v = .ref p ∧ PathAt C H p t zs ∧ zs.Nodup ∧ 0 < zs.length ∧ zs.length ≤ 400 ∧ next zs
def spOverOf (K : PySem.W.Frag) (C CP CF CG : Addr) : Sp := fun vs H Q E => ∃ v u y, vs = [v, u, y] ∧ PathT K C CP v H E fun zs => PhotoT K CF zs u H E fun os => ∃ ky, Th K H y ky ∧ (ky.isDict = false → Bad "gains" CG y H E) ∧
  (ky.isDict = true → ∃ d kvs, y = .ref d ∧ H d = some (.dK kvs) ∧ (∀ kv ∈ kvs, ∃ kx, Th K H kv.2 kx) ∧ (gainsB zs os kvs = false → Bad "gains" CG y H E) ∧ (gainsB zs os kvs = true → ∀ H', Same H H' → Q (.int (fewB zs (restK os) (placeOf kvs))) H'))
def spAreGains (K : PySem.W.Frag) (C CP CF : Addr) : Sp := fun vs H Q E => ∃ v u x y, vs = [v, u, x, y] ∧ PathT K C CP v H E fun zs => PhotoT K CF zs u H E fun os => PhotoT K CF zs x H E fun ls => ∃ ky, Th K H y ky ∧ (ky.isDict = false → ∀ H', Same H H' → Q (.bl false) H') ∧
  (ky.isDict = true → ∃ d kvs, y = .ref d ∧ H d = some (.dK kvs) ∧ (∀ kv ∈ kvs, ∃ kx, Th K H kv.2 kx) ∧ ∀ H', Same H H' → Q (.bl (areB zs os ls kvs)) H')
section
variable {K : PySem.W.Frag} {n D : Addr} {ts : List Addr} {ps : List (Str × Str)} {a b : Nat} {vs : List Nat} {te : TE} {tt : TT} {σ : St} {H1 : Hp} {Qd : Hp → Prop}
/-- numbers of pairs -/
theorem lcP_it (f : Str × Str → Int) (hn : H1 n = some (.lst (ts.map V.ref))) (hp : Paired (fun (t : Addr) (q : Str × Str) => H1 t = some (.tup [.str q.1, .str q.2])) ts ps) (hD : H1 D = none) (hl : ps.length ≤ 1000000) (htt : tt = tYes)
    (hg : ∀ T x y G (Q : St → Hp → Prop), G T = some (.tup [x, y]) → Q (((wipe σ vs).set a (some x)).set b (some y)) G → gTup K 2 (gCons (gName a) (gCons (gName b) gNil)) (.ref T) (wipe σ vs) G Q)
    (hw : ∀ x y, wipe (((wipe σ vs).set a (some x)).set b (some y)) vs = wipe σ vs)
    (hv : ∀ q ∈ ps, ∀ G (Q : VK), Same H1 G → Q (.int (f q)) G → te (((wipe σ vs).set a (some (.str q.1))).set b (some (.str q.2))) G Q)
    (hd : ∀ G, Same H1 G → G D = some (.lst ((ps.map f).map V.int)) → Qd G) :
    ∃ W : Nat → Nat → Hp → Prop, (∃ m, W 0 m (upd H1 D (.lst []))) ∧ ∀ j m H, W j m H →
      ((Itl K n).stop j H ∧ Qd H) ∨ ((Itl K n).go j H ∧ ∃ Nx : Hp → Prop, (∀ H', Nx H' → ∃ m', m' < m ∧ W (j + 1) m' H') ∧ ∀ x H', (Itl K n).yld j H x H' → gTup K 2 (gCons (gName a) (gCons (gName b) gNil)) x (wipe σ vs) H' fun σ2 H2 => wipe σ2 vs = wipe σ vs ∧ tt σ2 H2 fun b H3 =>
        if b = true then te σ2 H3 fun y H4 => ∃ acc, H4 D = some (.lst acc) ∧ acc.length < sizeLine ∧ Nx (upd H4 D (.lst (acc ++ [y]))) else Nx H3) := by
  subst htt
  have htl := Paired.length hp
  refine lc_it (walk_list (K := K) (a := n) (xs := ts.map V.ref)) (fun j G => Same H1 G ∧ G D = some (.lst (((ps.take j).map f).map V.int))) ⟨same_upd hD, upd_same⟩ (fun j G _ q => SqL.of (q.1 _ _ hn)) ?_ ?_
  · rintro j x G1 G2 hj ⟨sm, hacc⟩ ⟨rfl, hx⟩
    obtain ⟨t, ht, rfl⟩ := get_map hx
    obtain ⟨q, hq, e⟩ := paired_get hp ht
    refine hg t _ _ _ _ (sm _ _ e) ⟨hw _ _, tyes (hv q (List.mem_of_getElem? hq) _ _ sm ?_)⟩
    refine ⟨_, hacc, ?_, fun c o hb => ?_, ?_⟩
    · rw [List.length_map, List.length_map, List.length_take]
      exact Nat.lt_of_le_of_lt (Nat.le_trans (Nat.min_le_right _ _) hl) (by decide)
    · rw [upd_ne (ne_of_none hb hD)]
      exact sm _ _ hb
    · rw [upd_same, take_more hq, List.map_append, List.map_append]
      rfl
  · rintro G ⟨sm, hacc⟩
    rw [List.length_map, htl, List.take_length] at hacc
    exact hd G sm hacc
end
section
variable {w : World} {K : PySem.W.Frag} {n D : Addr} {zs : List Str} {i : Nat} {vs : List Nat} {te : TE} {σ : St} {H1 : Hp} {Qd : Hp → Prop}
/-- the set of numbers of names -/
theorem scN_it (f : Str → Int) (hn : H1 n = some (.lst (zs.map V.str))) (hD : H1 D = none) (hl : zs.length ≤ 1000) (hw : ∀ x, wipe ((wipe σ vs).set i (some x)) vs = wipe σ vs)
    (hv : ∀ z ∈ zs, ∀ G (Q : VK), Same H1 G → Q (.int (f z)) G → te ((wipe σ vs).set i (some (.str z))) G Q)
    (hd : ∀ G S m, Same H1 G → G D = some (SetO w D S m) → m = (onceI (zs.map f).reverse).length → Qd G) : SetWalk w (Itl K n) D (gName i) tYes te vs σ H1 Qd := by
  refine sc_it (walk_list (K := K) (a := n) (xs := zs.map V.str)) (fun j G => Same H1 G ∧ ∃ S m, G D = some (SetO w D S m) ∧ (∀ x, S x = decide (x ∈ (zs.map f).take j)) ∧ m = (onceI ((zs.map f).take j).reverse).length) ⟨same_upd hD, _, _, upd_same, fun x => by simp, rfl⟩ (fun j G _ p => SqL.of (p.1 _ _ hn)) ?_ ?_
  · rintro j x G1 G2 hj ⟨sm, S, m, hS, hmem, hm⟩ ⟨rfl, hx⟩
    obtain ⟨z, hz, hzm, rfl⟩ := name_at hx
    have hri : (zs.map f)[j]? = some (f z) := by rw [List.getElem?_map, hz]; rfl
    refine ⟨hw _, tyes (hv z hzm _ _ sm ?_)⟩
    refine ⟨_, S, m, rfl, hS, ?_, fun b u hb => ?_, _, _, upd_same, fun x => ?_, ?_⟩
    · have le := once_le ((zs.map f).take j).reverse
      rw [List.length_reverse, List.length_take, List.length_map] at le
      rw [hm]
      exact Nat.lt_of_le_of_lt (Nat.add_le_add_right (Nat.le_trans le (Nat.le_trans (Nat.min_le_right _ _) hl)) 1) (by decide)
    · rw [upd_ne (ne_of_none hb hD)]
      exact sm _ _ hb
    · rw [take_more hri, hmem x]
      simp
    · rw [take_more hri, List.reverse_append]
      show _ = (onceI (f z :: ((zs.map f).take j).reverse)).length
      rw [hmem, hm, once_cons]
      by_cases hin : f z ∈ (zs.map f).take j
      · rw [decide_eq_true hin, if_pos rfl, if_pos (mem_once.mpr (List.mem_reverse.mpr hin))]
      · rw [decide_eq_false hin, if_neg Bool.false_ne_true, if_neg (fun q => hin (List.mem_reverse.mp (mem_once.mp q))), List.length_cons]
  · rintro G ⟨sm, S, m, hS, hmem, hm⟩
    rw [List.length_map, show zs.length = (zs.map f).length from (List.length_map _).symm, List.take_length] at hm
    exact hd G S m sm hS hm
end
section
variable {K : PySem.W.Frag} {e D : Addr} {o : Obj} {zs : List Str} {a b : Nat} {vs : List Nat} {te : TE} {σ : St} {H1 : Hp} {Qd : Hp → Prop}
/-- truths of a locked dict's items -/
theorem lcI2_it (f : Str → Int) (p : Str → Bool) (he : H1 e = some (.frz o (.dK (kvOf zs f)))) (hD : H1 D = none) (hl : zs.length ≤ 1000)
    (hg : ∀ T x y G (Q : St → Hp → Prop), G T = some (.tup [x, y]) → Q (((wipe σ vs).set a (some x)).set b (some y)) G → gTup K 2 (gCons (gName a) (gCons (gName b) gNil)) (.ref T) (wipe σ vs) G Q)
    (hw : ∀ x y, wipe (((wipe σ vs).set a (some x)).set b (some y)) vs = wipe σ vs)
    (hv : ∀ z ∈ zs, ∀ G (Q : VK), Same H1 G → Q (.bl (p z)) G → te (((wipe σ vs).set a (some (.str z))).set b (some (.int (f z)))) G Q)
    (hd : ∀ G, Same H1 G → G D = some (.lst ((zs.map p).map V.bl)) → Qd G) :
    ∃ W : Nat → Nat → Hp → Prop, (∃ m, W 0 m (upd H1 D (.lst []))) ∧ ∀ j m H, W j m H →
      ((Iti e o (kvOf zs f)).stop j H ∧ Qd H) ∨ ((Iti e o (kvOf zs f)).go j H ∧ ∃ Nx : Hp → Prop, (∀ H', Nx H' → ∃ m', m' < m ∧ W (j + 1) m' H') ∧ ∀ x H', (Iti e o (kvOf zs f)).yld j H x H' → gTup K 2 (gCons (gName a) (gCons (gName b) gNil)) x (wipe σ vs) H' fun σ2 H2 => wipe σ2 vs = wipe σ vs ∧ tYes σ2 H2 fun b H3 =>
        if b = true then te σ2 H3 fun y H4 => ∃ acc, H4 D = some (.lst acc) ∧ acc.length < sizeLine ∧ Nx (upd H4 D (.lst (acc ++ [y]))) else Nx H3) := by
  have hkl : (kvOf zs f).length = zs.length := List.length_map _
  refine lc_it (walk_items (d := e) (o := o) (kvs := kvOf zs f)) (fun j G => Same H1 G ∧ G D = some (.lst (((zs.take j).map p).map V.bl))) ⟨same_upd hD, upd_same⟩ (fun j G _ q => q.1 _ _ he) ?_ ?_
  · rintro j x G1 G2 hj ⟨sm, hacc⟩ ⟨T, x1, y1, rfl, hT, rfl, hx1, hy1⟩
    rw [hkl] at hj
    have hz : zs[j]? = some zs[j] := List.getElem?_eq_getElem hj
    have hk : (kvOf zs f)[j]? = some ((Sum.inr zs[j] : Key), V.int (f zs[j])) := by
      unfold kvOf
      rw [List.getElem?_map, hz]
      rfl
    replace hx1 : ((kvOf zs f)[j]?.map fun kv => kV kv.1) = some x1 := hx1
    replace hy1 : ((kvOf zs f)[j]?.map Prod.snd) = some y1 := hy1
    rw [hk] at hx1 hy1
    cases hx1
    cases hy1
    have sT := same_upd (o := .tup [V.str zs[j], .int (f zs[j])]) hT
    have eT : (upd G1 T (.tup [V.str zs[j], .int (f zs[j])])) T = some (.tup [V.str zs[j], .int (f zs[j])]) := upd_same
    show gTup K 2 _ _ _ (upd G1 T (.tup [V.str zs[j], .int (f zs[j])])) _
    generalize upd G1 T (.tup [V.str zs[j], .int (f zs[j])]) = G2 at sT eT
    refine hg T _ _ _ _ eT ⟨hw _ _, tyes (hv _ (List.getElem_mem hj) _ _ (sm.trans sT) ?_)⟩
    refine ⟨_, sT _ _ hacc, ?_, fun c u hb => ?_, ?_⟩
    · rw [List.length_map, List.length_map, List.length_take]
      exact Nat.lt_of_le_of_lt (Nat.le_trans (Nat.min_le_right _ _) hl) (by decide)
    · rw [upd_ne (ne_of_none hb hD)]
      exact sT _ _ (sm _ _ hb)
    · rw [upd_same, take_more hz, List.map_append, List.map_append]
      rfl
  · rintro G ⟨sm, hacc⟩
    rw [hkl, List.take_length] at hacc
    exact hd G sm hacc
end
section
variable {P : Program} {w : World} {K : PySem.W.Frag} {mg : Str → Option Value} {base : Heap} {C CP CF CG fF fG fI : Addr}
theorem scIsListOf : FnScope ["many", "thing"] ["many", "thing"] (defScope sIsListOf) := ⟨rfl, rfl, rfl, by decide +kernel, rfl, by decide +kernel, by decide +kernel⟩
theorem ok_listOfG {f fL : Addr} {fd fdL : FuncData} (F : Fun K "is_list_of" "is_list_of" sIsListOf f fd) (B : B0 K mg)
    (GL : FnOk P w K mg base CX0 1 fL fdL ["thing"] (spIsList K)) (bL : Binds K fdL ["thing"] []) (gL : mg "is_list" = some (.ref fL)) (kL9 : PySem.W.keepIn K (.ref fL) = true) :
    FnOk P w K mg base CX0 2 f fd ["many", "thing"] (spListOfG K) := by
  refine F.ok scIsListOf (fun vs H Q E h => ?_) (fun cdv A outer s H vs Q E hr h => ?_)
  · obtain ⟨many, v, k, rfl, _⟩ := h
    rfl
  · obtain ⟨many, v, k, rfl, ht, kno, kyes⟩ := h
    have hu := hu_of hr
    have hr1 : Room 1 _ := hr.mono (by decide)
    refine ⟨_, pss_one (ps_ret (pe_and (pe_call GL hr1 (by rfl) gL kL9 bL .nil pass0 (pa_cons (pv 1) pa_nil)) (pe_one (pe_cmpR op_eq (pe_callB call_len_seq (by rfl) B.len PySem.boot_len (pa_cons (pv 1) pa_nil)) (pv 0) (nomark _))))), ?_⟩
    refine ⟨_, rfl, v, k, rfl, ht, fun H1 s1 => ⟨k.isSeq, rfl, ?_⟩⟩
    cases hk : k.isSeq with
    | false => exact iteF (kno hk H1 s1)
    | true =>
      obtain ⟨a, xs, rfl, hsq, q⟩ := kyes hk
      refine iteT ⟨_, rfl, a, xs, rfl, (hsq.same s1).elim (fun e => .inl (SqL.of e.1)) (fun e => .inr (SqT.of e.1)), _, rfl, rfl, q H1 s1⟩

theorem scIsPhoto : FnScope ["names", "thing"] ["names", "thing"] (defScope sIsPhoto) := ⟨rfl, rfl, rfl, by decide +kernel, rfl, by decide +kernel, by decide +kernel⟩
theorem ok_isPhoto {f fS fO : Addr} {fd fdS fdO : FuncData} (F : Fun K "is_photograph" "is_photograph" sIsPhoto f fd) (B : B0 K mg)
    (GS : FnOk P w K mg base CX0 2 fS fdS ["names", "things"] (spStrangerK K)) (bS : Binds K fdS ["names", "things"] []) (gS : mg "first_stranger" = some (.ref fS)) (kS9 : PySem.W.keepIn K (.ref fS) = true)
    (GO : FnOk P w K mg base CX0 2 fO fdO ["many", "thing"] (spListOfG K)) (bO : Binds K fdO ["many", "thing"] []) (gO : mg "is_list_of" = some (.ref fO)) (kO9 : PySem.W.keepIn K (.ref fO) = true) :
    FnOk P w K mg base CX0 3 f fd ["names", "thing"] (spIsPhoto K) := by
  refine F.ok scIsPhoto (fun vs H Q E h => ?_) (fun cdv A outer s H vs Q E hr h => ?_)
  · obtain ⟨n, zs, v, k, rfl, _⟩ := h
    rfl
  · obtain ⟨n, zs, v, k, rfl, hn, ht, kno, kyes⟩ := h
    have hu := hu_of hr
    have hr2 : Room 2 _ := hr.mono (by decide)
    refine ⟨_, pss_one (ps_ret (pe_and (pe_call GO hr2 (by rfl) gO kO9 bO .nil pass0 (pa_cons (pe_callB call_len_seq (by rfl) B.len PySem.boot_len (pa_cons (pv 0) pa_nil)) (pa_cons (pv 1) pa_nil))) (pe_one (pe_cmpR op_isN (pe_call GS hr2 (by rfl) gS kS9 bS .nil pass0 (pa_cons (pv 0) (pa_cons (pv 1) pa_nil))) pe_non (nomark _))))), ?_⟩
    have hll : (zs.map V.str).length = zs.length := List.length_map _
    refine ⟨_, rfl, n, _, rfl, .inl (SqL.of hn), _, rfl, _, v, k, rfl, ht, fun hk H1 s1 => ⟨false, rfl, iteF (kno hk H1 s1)⟩, fun hk => ?_⟩
    obtain ⟨a, xs, rfl, hsq, hl, hth, q⟩ := kyes hk
    refine ⟨a, xs, rfl, hsq, fun H1 s1 => ⟨_, rfl, ?_⟩⟩
    rw [hll]
    unfold photoB at q
    cases hd : decide (V.int (xs.length : Nat) = V.int (zs.length : Nat)) with
    | false =>
      rw [hd] at q
      exact iteF (q H1 s1)
    | true =>
      rw [hd] at q
      refine iteT ⟨_, rfl, _, rfl, n, a, zs, xs, k, rfl, s1 _ _ hn, hsq.same s1, hl, fun x hx => let ⟨kx, e⟩ := hth x hx; ⟨kx, e.same s1⟩, fun H2 s2 => ⟨rfl, q H2 (s1.trans s2)⟩⟩

theorem scNeedPhoto : FnScope ["names", "photo"] ["names", "photo"] (defScope sNeedPhoto) := ⟨rfl, rfl, rfl, by decide +kernel, rfl, by decide +kernel, by decide +kernel⟩
theorem ok_needPhoto {f fI : Addr} {fd fdI : FuncData} (F : Fun K "need_photo" "need_photo" sNeedPhoto f fd) (EF : ErrAt P K mg "BadPhoto" "photo" CF fF)
    (GI : FnOk P w K mg base CX0 3 fI fdI ["names", "thing"] (spIsPhoto K)) (bI : Binds K fdI ["names", "thing"] []) (gI : mg "is_photograph" = some (.ref fI)) (kI9 : PySem.W.keepIn K (.ref fI) = true) :
    FnOk P w K mg base (L2.CX P w) 4 f fd ["names", "photo"] (spNeedPhoto K CF) := by
  refine F.okX scNeedPhoto (fun vs H Q E h => ?_) (fun cdv A outer s H vs Q E hr h => ?_)
  · obtain ⟨n, zs, v, k, rfl, _⟩ := h
    rfl
  · obtain ⟨n, zs, v, k, rfl, hn, ht, bad, good⟩ := h
    have hu := hu_of hr
    have hr3 : Room 3 _ := hr.mono (by decide)
    refine ⟨_, pss_one (ps_if (pt_not (pt_val (pe_call GI hr3 (by rfl) gI kI9 bI .nil pass0 (pa_cons (pv 0) (pa_cons (pv 1) pa_nil))))) (pss_one (ps_raiseX rfl EF.x EF.g hr (takes_of rfl rfl rfl rfl) (by exact (pa_cons (pv 1) pa_nil)))) (pss_nil)), ?_⟩
    refine ⟨_, rfl, _, rfl, n, zs, v, k, rfl, hn, ht, fun hk H1 s1 => ⟨false, rfl, iteT ⟨_, rfl, _, rfl, fun d hd => (bad hk) d _ (s1.trans (same_upd hd)) upd_same⟩⟩, fun hk => ?_⟩
    obtain ⟨a, xs, rfl, hsq, hl, hth, b2, g2⟩ := good hk
    refine ⟨a, xs, rfl, hsq, hl, hth, fun H1 s1 => ⟨_, rfl, ?_⟩⟩
    cases hb : photoB zs xs with
    | false => exact iteT ⟨_, rfl, _, rfl, fun d hd => (b2 hb) d _ (s1.trans (same_upd hd)) upd_same⟩
    | true => exact iteF (g2 hb H1 s1)

theorem scRestsIn : FnScope ["photo", "rest", "name"] ["photo"] (defScope sRestsIn) := ⟨rfl, rfl, rfl, by decide +kernel, rfl, by decide +kernel, by decide +kernel⟩
theorem ok_restsIn {f  : Addr} {fd  : FuncData} (F : Fun K "rests_in" "rests_in" sRestsIn f fd) (B : B0 K mg) :
    FnOk P w K mg base CX0 1 f fd ["photo"] spRestsIn := by
  refine F.ok scRestsIn (fun vs H Q E h => ?_) (fun cdv A outer s H vs Q E hr h => ?_)
  · obtain ⟨a, os, k, rfl, _⟩ := h
    rfl
  · obtain ⟨a, os, k, rfl, hsq, hnd, hl, q⟩ := h
    have hu := hu_of hr
    refine ⟨_, pss_one (ps_ret (pe_dc (tk := (tVar 2)) (tv := (tVar 1)) (own := [("rest", 1), ("name", 2)]) (g := (gTup K 2 (gCons (gName 1) (gCons (gName 2) gNil)))) (tt := tYes) rfl scRestsIn.nd (pi_enumA (by rfl) B.enum (pa_cons (pv 0) pa_nil)) (blkOk_by (N := ["photo", "rest", "name"]) (sc := defScope sRestsIn) (by decide +kernel)) (fun _ _ _ _ _ => by exact (pg_tup rfl (pgs_cons (pg_name (i := 1) scRestsIn.nd rfl (Or.inl rfl)) (pgs_cons (pg_name (i := 2) scRestsIn.nd rfl (Or.inl rfl)) pgs_nil)))) (fun _ _ _ _ _ => pts_nil) (fun _ _ _ _ _ => by exact (pv 2)) (fun _ _ _ _ _ => by exact (pv 1)))), ?_⟩
    have hlen : (os.map V.str).length = os.length := List.length_map _
    refine ⟨_, rfl, a, os.map V.str, rfl, ?_⟩
    rcases hsq with ⟨e, hk⟩ | ⟨e, hk⟩
    · refine .inl ⟨SqL.of e, fun D hD => dc_it (walk_enum (K := K) (a := a) (xs := os.map V.str)) (fun i H' => Same H H' ∧ H' D = some (.dK (firstKv (os.take i)))) ⟨same_upd hD, upd_same⟩ (fun i H' _ p => SqL.of (p.1 _ _ e)) ?_ ?_⟩
      · rintro i x H1 H2 hi ⟨sm, hacc⟩ ⟨T, x1, y, rfl, hT, rfl, hx1, hy⟩
        cases hx1
        replace hy : (os.map V.str)[i]? = some y := hy
        obtain ⟨z, hz, hzm, rfl⟩ := name_at hy
        have sT := same_upd (o := .tup [.int (i : Nat), V.str z]) hT
        have hli : (os.take i).length = i := by rw [List.length_take]; rw [hlen] at hi; omega
        refine ⟨T, _, rfl, SqT.of upd_same, rfl, _, _, rfl, _, _, rfl, rfl, rfl, tyes ?_⟩
        refine ⟨_, rfl, _, rfl, firstKv (os.take i), (Sum.inr z : Key), rfl, sT _ _ hacc, ?_, fun b u hb => ?_, ?_⟩
        · unfold firstKv
          rw [List.length_map, List.length_zipIdx, hli]
          exact Nat.lt_of_le_of_lt (Nat.le_trans (Nat.le_of_lt hi) (by rw [hlen]; exact hl)) (by decide)
        · rw [upd_ne (ne_of_none hb hD)]
          exact sT _ _ (sm _ _ hb)
        · rw [upd_same, put_new (no_key first_keys (nodup_take hnd hz)), take_more hz, first_more, hli]
      · rintro H1 ⟨sm, hacc⟩
        rw [show (os.map V.str).length = os.length from hlen, List.take_length, first_kv hnd] at hacc
        exact q D H1 hD hacc sm
    · refine .inr ⟨SqT.of e, fun D hD => dc_it (walk_enumT (K := K) (a := a) (xs := os.map V.str)) (fun i H' => Same H H' ∧ H' D = some (.dK (firstKv (os.take i)))) ⟨same_upd hD, upd_same⟩ (fun i H' _ p => SqT.of (p.1 _ _ e)) ?_ ?_⟩
      · rintro i x H1 H2 hi ⟨sm, hacc⟩ ⟨T, x1, y, rfl, hT, rfl, hx1, hy⟩
        cases hx1
        replace hy : (os.map V.str)[i]? = some y := hy
        obtain ⟨z, hz, hzm, rfl⟩ := name_at hy
        have sT := same_upd (o := .tup [.int (i : Nat), V.str z]) hT
        have hli : (os.take i).length = i := by rw [List.length_take]; rw [hlen] at hi; omega
        refine ⟨T, _, rfl, SqT.of upd_same, rfl, _, _, rfl, _, _, rfl, rfl, rfl, tyes ?_⟩
        refine ⟨_, rfl, _, rfl, firstKv (os.take i), (Sum.inr z : Key), rfl, sT _ _ hacc, ?_, fun b u hb => ?_, ?_⟩
        · unfold firstKv
          rw [List.length_map, List.length_zipIdx, hli]
          exact Nat.lt_of_le_of_lt (Nat.le_trans (Nat.le_of_lt hi) (by rw [hlen]; exact hl)) (by decide)
        · rw [upd_ne (ne_of_none hb hD)]
          exact sT _ _ (sm _ _ hb)
        · rw [upd_same, put_new (no_key first_keys (nodup_take hnd hz)), take_more hz, first_more, hli]
      · rintro H1 ⟨sm, hacc⟩
        rw [show (os.map V.str).length = os.length from hlen, List.take_length, first_kv hnd] at hacc
        exact q D H1 hD hacc sm

end
end RK

namespace RK
open PySem L2
/-! ### numbers -/
def numB : V → Bool
  | .int i => decide (i ≥ 0)
  | _ => false
theorem Th.num_b {K : PySem.W.Frag} {H : Hp} {v : V} {k : Kd} (h : Th K H v k) (e : k.isInt = false) : numB v = false := by
  cases h <;> first | rfl | cases e
theorem Th.int_of {K : PySem.W.Frag} {H : Hp} {v : V} {k : Kd} (h : Th K H v k) (e : k.isInt = true) : ∃ i, v = .int i := by
  cases h <;> first | exact ⟨_, rfl⟩ | cases e
def spIsNumber (K : PySem.W.Frag) : Sp := fun vs H Q _ => ∃ v k, vs = [v] ∧ Th K H v k ∧ ∀ H', Same H H' → Q (.bl (numB v)) H'
/-- a dict from just all the names to numbers -/
def dictNB (zs : List Str) (kvs : List (Key × V)) : Bool := decide (kvs.length = zs.length) && zs.all fun z => match valV kvs (Sum.inr z : Key) with
  | some v => numB v
  | none => false
def isRightN (kvs : List (Key × V)) (z : Str) : Bool := match valV kvs (Sum.inr z : Key) with
  | some v => numB v
  | none => false
def spDictNu (K : PySem.W.Frag) (fI : Addr) : Sp := fun vs H Q _ => ∃ (n : Addr) (zs : List Str) (v : V) (k : Kd), vs = [.ref n, v, .ref fI] ∧ H n = some (.lst (zs.map V.str)) ∧ zs.length ≤ 1000 ∧ Th K H v k ∧
  (k.isDict = false → ∀ H', Same H H' → Q (.bl false) H') ∧
  (k.isDict = true → ∃ d kvs, v = .ref d ∧ H d = some (.dK kvs) ∧ (∀ kv ∈ kvs, ∃ kx, Th K H kv.2 kx) ∧ ∀ H', Same H H' → Q (.bl (dictNB zs kvs)) H')
def spNeedNu (K : PySem.W.Frag) (CN : Addr) : Sp := fun vs H Q E => ∃ (n : Addr) (zs : List Str) (v : V) (k : Kd), vs = [.ref n, v] ∧ H n = some (.lst (zs.map V.str)) ∧ zs.length ≤ 1000 ∧ Th K H v k ∧
  (k.isDict = false → ∀ d H', Same H H' → H' d = some (.xd [("numbers", v)]) → E (.ref CN) (some d) H') ∧
  (k.isDict = true → ∃ dd kvs, v = .ref dd ∧ H dd = some (.dK kvs) ∧ (∀ kv ∈ kvs, ∃ kx, Th K H kv.2 kx) ∧
    (dictNB zs kvs = false → ∀ d H', Same H H' → H' d = some (.xd [("numbers", v)]) → E (.ref CN) (some d) H') ∧ (dictNB zs kvs = true → ∀ H', Same H H' → Q .non H'))
section
variable {P : Program} {w : World} {K : PySem.W.Frag} {mg : Str → Option Value} {base : Heap} {CN fN : Addr}
theorem scIsNumber : FnScope ["thing"] ["thing"] (defScope sIsNumber) := ⟨rfl, rfl, rfl, by decide +kernel, rfl, by decide +kernel, by decide +kernel⟩
theorem ok_isNumber {f fI : Addr} {fd fdI : FuncData} (F : Fun K "is_number" "is_number" sIsNumber f fd)
    (GI : FnOk P w K mg base CX0 1 fI fdI ["thing"] (spIsInt K)) (bI : Binds K fdI ["thing"] []) (gI : mg "is_integer" = some (.ref fI)) (kI : PySem.W.keepIn K (.ref fI) = true) :
    FnOk P w K mg base CX0 2 f fd ["thing"] (spIsNumber K) := by
  refine F.ok scIsNumber (fun vs H Q E h => ?_) (fun cdv A outer s H vs Q E hr h => ?_)
  · obtain ⟨v, k, rfl, _⟩ := h
    rfl
  · obtain ⟨v, k, rfl, ht, q⟩ := h
    refine ⟨_, pss_one (ps_ret (pe_and (pe_call GI hr (by rfl) gI kI bI .nil pass0 (pa_cons (pv 0) pa_nil)) (pe_one (pe_cmpR op_ge (pv 0) pe_int (nomark _))))), ?_⟩
    refine ⟨_, rfl, v, k, rfl, ht, fun H1 s1 => ⟨k.isInt, rfl, ?_⟩⟩
    have q' := q H1 s1
    cases hk : k.isInt with
    | false =>
      rw [ht.num_b hk] at q'
      exact iteF q'
    | true =>
      obtain ⟨i, rfl⟩ := ht.int_of hk
      exact iteT ⟨_, rfl, _, _, rfl, rfl, q'⟩
theorem ok_dictNu {f fI : Addr} {fd fdI : FuncData} (F : Fun K "is_dict_of" "is_dict_of" sDictOf f fd) (B : B0 K mg) (GI : FnOk P w K mg base CX0 2 fI fdI ["thing"] (spIsNumber K)) (bI : Binds K fdI ["thing"] []) (gI : mg "is_number" = some (.ref fI)) (kI : PySem.W.keepIn K (.ref fI) = true) :
    FnOk P w K mg base CX0 3 f fd ["keys", "thing", "is_right"] (spDictNu K fI) := by
  refine F.ok scDictOf (fun vs H Q E h => ?_) (fun cdv A outer s H vs Q E hr h => ?_)
  · obtain ⟨n, zs, v, k, rfl, _⟩ := h
    rfl
  · obtain ⟨n, zs, v, k, rfl, hn, hl, ht, kno, kyes⟩ := h
    have hu := hu_of hr
    refine ⟨_, pss_cons (ps_if (PW.pt (pw_or (pt_not (pt_val (pe_callB call_isiZ (by rfl) B.isi (by decide +kernel) (pa_cons (pv 1) (pa_cons (pe_bltn (v := .ty "dict") (by rfl) B.dict (by decide +kernel) rfl) pa_nil)))))
        (pw_or1 (pt_cmpR op_ne (pe_callB call_lenD (by rfl) B.len PySem.boot_len (pa_cons (pv 1) pa_nil)) (pe_callB call_len_seq (by rfl) B.len PySem.boot_len (pa_cons (pv 0) pa_nil)) (nomark _))))) (pss_one (ps_ret pe_bl)) pss_nil)
      (pss_one (ps_ret (pe_callB (cr_all rfl) (by rfl) B.all (by decide +kernel) (pa_cons (pe_lc (te := tAndV (tDIn (tVar 3) (tVar 1)) (tCallL 2 fI (spIsNumber K) [] E0 (tCons (tDGet (tVar 1) (tVar 3)) tNil))) (own := [("key", 3)]) (g := gName 3) (tt := tYes) rfl scDictOf.nd
        (pi_list (pv 0)) (blkOk_by (N := ["keys", "thing", "is_right", "key"]) (sc := defScope sDictOf) (by decide +kernel)) (fun _ _ _ _ _ => pg_name (i := 3) scDictOf.nd rfl (Or.inl rfl)) (fun _ _ _ _ _ => pts_nil)
        (fun _ _ _ _ _ => by exact (pe_and (pe_cmp (pc_din hu (pv 3) (pv 1))) (pe_one (pe_callL GI hr rfl (by first | exact .inl rfl | exact .inr (.inl rfl) | exact .inr (.inr rfl) | exact .inr rfl) kI bI .nil pass0 (pa_cons (pe_dget hu (pv 1) (pv 3) (fun _ _ => rfl)) pa_nil)))))) pa_nil)))), ?_⟩
    refine ⟨_, rfl, v, .ty "dict", _, .type "dict", _, rfl, .ty _, ht.ty, kit_dict k, _, rfl, ?_⟩
    cases hk : k.isDict with
    | false => exact iteT (iteT (kno hk H (Same.refl H)))
    | true =>
      obtain ⟨d, kvs, rfl, hd, hth, q⟩ := kyes hk
      refine iteF ⟨_, rfl, d, kvs, rfl, hd, _, rfl, n, _, rfl, .inl (SqL.of hn), rfl, _, rfl, ?_⟩
      have hlen : (zs.map V.str).length = zs.length := List.length_map _
      by_cases e : kvs.length = zs.length
      · have e' : (!decide (V.int (kvs.length : Nat) = V.int ((zs.map V.str).length : Nat))) = false := by rw [hlen, e]; simp
        rw [e']
        refine iteF ⟨_, rfl, n, rfl, ⟨_, SqL.of hn⟩, fun D hD => ?_⟩
        refine lc_it (walk_list (K := K) (a := n) (xs := zs.map V.str)) (fun i H' => Same H H' ∧ H' D = some (.lst ((zs.take i).map fun z => V.bl (isRightN kvs z)))) ⟨same_upd hD, upd_same⟩ (fun i H' _ p => SqL.of (p.1 _ _ hn)) ?_ ?_
        · rintro i x H1 H2 hi ⟨sm, hacc⟩ ⟨rfl, hx⟩
          obtain ⟨z, hz, rfl⟩ : ∃ z, zs[i]? = some z ∧ x = .str z := by
            rw [List.getElem?_map] at hx
            cases qz : zs[i]? with
            | none => rw [qz] at hx; cases hx
            | some z => rw [qz] at hx; cases hx; exact ⟨z, rfl, rfl⟩
          have fin : ∀ H', Same H2 H' → ∃ acc, H' D = some (.lst acc) ∧ acc.length < sizeLine ∧ Same H (upd H' D (.lst (acc ++ [V.bl (isRightN kvs z)]))) ∧ (upd H' D (.lst (acc ++ [V.bl (isRightN kvs z)]))) D = some (.lst ((zs.take (i + 1)).map fun z => V.bl (isRightN kvs z))) := fun H' s' => by
            refine ⟨_, s' _ _ hacc, ?_, fun b u hb => ?_, ?_⟩
            · rw [List.length_map, List.length_take]
              exact Nat.lt_of_le_of_lt (Nat.le_trans (Nat.min_le_right _ _) hl) (by decide)
            · rw [upd_ne (ne_of_none hb hD)]
              exact s' _ _ (sm _ _ hb)
            · rw [upd_same, take_more hz, List.map_append]
              rfl
          refine ⟨rfl, tyes ?_⟩
          refine ⟨_, rfl, _, rfl, d, _, rfl, DGet.k (k := (Sum.inr z : Key)) (sm _ _ hd), _, rfl, ?_⟩
          cases hv : valV kvs (Sum.inr z : Key) with
          | none =>
            refine iteF ?_
            have q' := fin H2 (Same.refl H2)
            have er : isRightN kvs z = false := by unfold isRightN; rw [hv]
            rw [er] at q'
            exact q'
          | some v =>
            obtain ⟨kv, hkv, rfl⟩ := val_mem hv
            obtain ⟨kx, hkx⟩ := hth kv hkv
            have er : isRightN kvs z = numB kv.2 := by unfold isRightN; rw [hv]
            refine iteT ⟨rfl, _, rfl, _, rfl, d, _, rfl, hv ▸ DGet.k (k := (Sum.inr z : Key)) (sm _ _ hd), kv.2, kx, rfl, hkx.same sm, fun H' s' => ?_⟩
            have q' := fin H' s'
            rw [er] at q'
            exact q'
        · rintro H1 ⟨sm, hacc⟩
          have hacc' : H1 D = some (.lst ((zs.map fun z => isRightN kvs z).map V.bl)) := by
            rw [hacc, List.map_map, show (zs.map V.str).length = zs.length from hlen, List.take_length]
            rfl
          refine ⟨D, zs.map fun z => isRightN kvs z, rfl, SqL.of hacc', ?_⟩
          have q' := q H1 sm
          have er : dictNB zs kvs = (zs.map fun z => isRightN kvs z).all id := by
            unfold dictNB
            rw [decide_eq_true e, Bool.true_and, all_take]
            rfl
          rw [er] at q'
          exact q'
      · have e' : (!decide (V.int (kvs.length : Nat) = V.int ((zs.map V.str).length : Nat))) = true := by
          rw [hlen, decide_eq_false (fun z => e (by have := V.int.inj z; omega))]; rfl
        rw [e']
        have q' := q H (Same.refl H)
        have er : dictNB zs kvs = false := by
          unfold dictNB
          rw [decide_eq_false e]
          rfl
        rw [er] at q'
        exact iteT q'
end
end RK

/-! a lambda with parameters that captures nothing, as a value; a local name that holds such a one, called -/
namespace LamV
open PySem PySem.Spec PyProof.Rows L2 LamX NdefX
structure LF where
  qual : Str
  params : Arguments
  body : Expr
  scope : Scope
  c : Addr
def LF.nf (F : LF) : NF := ⟨"<lambda>", F.qual, F.params, [], F.scope, [], F.c⟩
/-- the object at f is the lambda F -/
def LamO (f : Addr) (F : LF) : HO := .ext fun h => ∃ (pm ctv : Value), h.get? f = some (PySem.W.kla_obj "<lambda>" F.qual F.params F.body F.scope [] pm F.c ctv)
theorem lamO_ne {f : Addr} {F : LF} (ps : Array Value) : LamO f F ≠ .tbl ps := fun z => by
  unfold LamO at z
  cases z
theorem lamO_at {P : Program} {w : World} {H : Hp} {h : Heap} {f : Addr} {F : LF} (hok : HOk P w H h) (e : H f = some (LamO f F)) : ∃ (pm ctv : Value), h.get? f = some (PySem.W.kla_obj "<lambda>" F.qual F.params F.body F.scope [] pm F.c ctv) := by
  obtain ⟨z, _, _⟩ := hok f _ e
  exact z
theorem clo_nil {cells : List (Str × Addr)} {names : List (Str × NameKind)} (h : ∀ y ∈ names, y.2 ≠ .free) : cloFrom cells names [] = [] := by
  refine List.eq_nil_iff_forall_not_mem.mpr fun p hp => ?_
  obtain ⟨y, c⟩ := p
  rcases cloFrom_mem hp with hm | ⟨h1, _⟩
  · cases hm
  · exact h _ h1 rfl
section
variable {X : Cx} {pins : List (Addr × Obj)} {σ : L2.St} {H : Hp} {s : Shared}
theorem inv_lam {F : LF} {t' : Nat} {pm ctv : Value} (I : Inv X pins σ H s) :
    Inv X pins σ (upd H s.heap.objs.size (LamO s.heap.objs.size F)) { s with heap := s.heap.push (PySem.W.kla_obj "<lambda>" F.qual F.params F.body F.scope [] pm F.c ctv), toks := t' } := by
  refine I.laid (a := s.heap.objs.size) (fun b u e => Heap.get?_push_of_some _ e) (Nat.le_refl _) ?_
  have e : (s.heap.push (PySem.W.kla_obj "<lambda>" F.qual F.params F.body F.scope [] pm F.c ctv)).get? s.heap.objs.size = some (PySem.W.kla_obj "<lambda>" F.qual F.params F.body F.scope [] pm F.c ctv) := Heap.get?_push_size _ rfl
  exact ⟨⟨pm, ctv, e⟩, ⟨_, e⟩, fun h1 h2 ⟨p, t, z⟩ st => ⟨p, t, st _ z⟩⟩
/-- the lambda is made: its code object is new, or found in the table -/
theorem lamv_make {T : List (Addr × Str)} {c P : Addr} {params : Arguments} {body : Expr} {scope : Scope} {pos : Pos} {E : Value → Shared → Prop} {Q : Value → Shared → Prop} (I : Inv X pins σ H s) (TB : TabB X.base X.mg c P) (hcode : X.env.code = .ref c)
    (hm : (P, X.env.qual ++ "<lambda>") ∈ T) (hu : ∀ p ∈ T, p.1 = P → p.2 = X.env.qual ++ "<lambda>") (hT : Tabs T H) (hdef : defaultsOf params X.env = ([], [])) (hfree : ∀ y ∈ scope.names, y.2 ≠ .free)
    (h : ∀ (f c' : Addr) (H1 : Hp) (s' : Shared), Inv X pins σ H1 s' → ExtN H H1 → Tabs T H1 → H f = none → H1 f = some (LamO f ⟨X.env.qual ++ "<lambda>", params, body, scope, c'⟩) → H1 c' = some (CodeO c' (X.env.qual ++ "<lambda>")) → Q (.ref f) s') :
    wpAny (model X.prog X.w) X.A (eval (.Lambda params body scope pos) X.env) Q E s := by
  obtain ⟨ps, hP, ht, ha⟩ := hT _ hm
  refine PySem.W.kla_eval hdef ?_
  have bP : s.heap.BuiltinsAt X.mg P := TB.bm.keeps I.bk
  have hP' : s.heap.get? P = some { cls := .none, data := .fields ps } := I.hok P _ hP
  have hclo : cloFrom X.env.cells scope.names [] = [] := clo_nil hfree
  have hfree' : ∀ y ∈ scope.names, y.2 = .free → ∃ c, X.env.cells.lookup y.1 = some c := fun y hy e => absurd e (hfree y hy)
  cases hc : codeAmong pos ps.toList with
  | none =>
    refine PySem.W.kla_makeFunction (mg := X.mg) (c := c) (P := P) (ps := ps) (closure_ok hfree') I.ok.glob (I.mod.glob.keeps I.bk) hcode (TB.code.keeps I.bk) hP' ht hc TB.gP bP fun c' ctv h' tk hx hge hlt hrec htb => ?_
    obtain ⟨c2, oc, vs, t, e2, hoc, hd, hv⟩ := hrec
    cases e2
    have nC : H c' = none := I.hok.fresh hge
    have I1 := inv_table (t' := tk) (more := #[rawInt pos.line, rawInt pos.col, .ref c']) (h' := h') I hP (fun b o hb e => hx b o hb e) htb hge ⟨oc, vs, t, hoc, hd, hv⟩
    have hE : ExtN H (upd (upd H P (.tbl (ps ++ #[rawInt pos.line, rawInt pos.col, .ref c']))) c' (CodeO c' (X.env.qual ++ "<lambda>"))) := fun b o e n => by
      rw [upd_ne (ne_of_none e nC), upd_ne (fun z => n ps (Option.some.inj (e.symm.trans (by rw [z]; exact hP))))]
      exact e
    have eL : (ps ++ #[rawInt pos.line, rawInt pos.col, .ref c']).toList = ps.toList ++ [rawInt pos.line, rawInt pos.col, .ref c'] := by simp
    have T1 : Tabs T (upd (upd H P (.tbl (ps ++ #[rawInt pos.line, rawInt pos.col, .ref c']))) c' (CodeO c' (X.env.qual ++ "<lambda>"))) := fun p hp => by
      by_cases hb : p.1 = P
      · rw [hu p hp hb, hb]
        refine ⟨_, by rw [upd_ne (ne_of_none hP nC), upd_same], by rw [eL]; exact PySem.TriplesOk_snoc _ _ _ _ ht, fun p' cv hcv => ?_⟩
        rw [eL] at hcv
        rcases among_app _ ht hcv with z | z
        · obtain ⟨c0, e1, e2⟩ := ha p' cv z
          exact ⟨c0, e1, hE _ _ e2 codeO_ne⟩
        · exact ⟨c', z, upd_same⟩
      · obtain ⟨ps', a1, a2, a3⟩ := hT p hp
        refine ⟨ps', by rw [upd_ne (ne_of_none a1 nC), upd_ne hb]; exact a1, a2, fun p' cv hcv => ?_⟩
        obtain ⟨c0, e1, e2⟩ := a3 p' cv hcv
        exact ⟨c0, e1, hE _ _ e2 codeO_ne⟩
    have nF := I1.hok.fresh (Nat.le_refl _)
    have I2 := inv_lam (F := ⟨X.env.qual ++ "<lambda>", params, body, scope, c'⟩) (t' := tk) (pm := (X.mg "__name__").getD .none) (ctv := ctv) I1
    rw [hclo]
    refine h h'.objs.size c' _ _ I2 (fun b o e n => ?_) (T1.ext fun b o e => ?_) (I.hok.fresh (Nat.le_trans hge (Nat.le_of_lt hlt))) upd_same ?_
    · have e1 := hE b o e n
      exact (upd_ne (ne_of_none e1 nF)).trans e1
    · exact (upd_ne (ne_of_none e nF)).trans e
    · exact (upd_ne (Nat.ne_of_lt hlt)).trans upd_same
  | some cv =>
    obtain ⟨c', e, hco⟩ := ha pos cv hc
    subst e
    refine PySem.W.kla_makeFunctionHit (mg := X.mg) (c := c) (P := P) (ps := ps) (closure_ok hfree') I.ok.glob (I.mod.glob.keeps I.bk) hcode (TB.code.keeps I.bk) hP' ht hc bP fun ctv h' tk hx hsz => ?_
    have I1 : Inv X pins σ H { s with heap := h', toks := tk } := I.kept hx
    have nF : H h'.objs.size = none := I1.hok.fresh (Nat.le_refl _)
    have I2 := inv_lam (F := ⟨X.env.qual ++ "<lambda>", params, body, scope, c'⟩) (t' := tk) (pm := (X.mg "__name__").getD .none) (ctv := ctv) I1
    rw [hclo]
    refine h h'.objs.size c' _ _ I2 (fun b o e n => ?_) (hT.ext fun b o e => ?_) nF upd_same ?_
    · exact (upd_ne (ne_of_none e nF)).trans e
    · exact (upd_ne (ne_of_none e nF)).trans e
    · exact (upd_ne (ne_of_none hco nF)).trans hco
end
/-- lambda ..: ..: a new function -/
def tLamV (T : List (Addr × Str)) (mk : Addr → LF) : TE := fun σ H Q => Tabs T H ∧ ∀ (f c' : Addr) (H1 : Hp), ExtN H H1 → Tabs T H1 → H f = none → H1 f = some (LamO f (mk c')) → H1 c' = some (CodeO c' (mk c').qual) → Q (.ref f) H1
theorem pe_lamv {X : Cx} {T : List (Addr × Str)} {c P : Addr} {params : Arguments} {body : Expr} {scope : Scope} {pos : Pos} (TB : TabB X.base X.mg c P) (hcode : X.env.code = .ref c) (hm : (P, X.env.qual ++ "<lambda>") ∈ T) (hu : ∀ p ∈ T, p.1 = P → p.2 = X.env.qual ++ "<lambda>")
    (hdef : defaultsOf params X.env = ([], [])) (hfree : scope.names.all (fun y => !decide (y.2 = .free)) = true) : PE X (.Lambda params body scope pos) (tLamV T fun c' => ⟨X.env.qual ++ "<lambda>", params, body, scope, c'⟩) := by
  refine ⟨fun pins s σ H Q I h => ?_⟩
  obtain ⟨hT, h⟩ := h
  have hf : ∀ y ∈ scope.names, y.2 ≠ .free := fun y hy e => by
    have q := List.all_eq_true.mp hfree y hy
    rw [decide_eq_true e] at q
    cases q
  exact lamv_make I TB hcode hm hu hT hdef hf fun f c' H1 s' I1 eN T1 f0 f1 c1 => ⟨.ref f, H1, I1, rfl, h f c' H1 eN T1 f0 f1 c1⟩
/-! ### what it promises -/
structure LOk (P : Program) (w : World) (K : PySem.W.Frag) (mg : Str → Option Value) (base : Heap) (CX : CXT) (k : Nat) (F : LF) (ps : List Str) (sp : Sp) : Prop where
  len : ∀ vs H Q E, sp vs H Q E → vs.length = ps.length
  run : ∀ (f : Addr) (A : Around) (outer : List Env) (s : Shared) (H : Hp) (us : List Value) (vs : List V) (Q : VK) (E : XK), Room k A → Env0 P w K mg base A outer s H → H f = some (LamO f F) → H F.c = some (CodeO F.c F.qual) →
    Vals vs us → sp vs H Q E → codeAny (model P w) A (.call (.ref f) ⟨us, []⟩) (CR CX outer P w H s Q E) s
section
variable {CX : CXT} {P : Program} {w : World} {K : PySem.W.Frag} {mg : Str → Option Value} {base : Heap} {N ps : List Str} {F : LF} {k j : Nat} {sp : Sp}
theorem lok_of (S : NScope N ps [] F.scope) (hb : ∀ (pm ctv : Value) (us : List Value), us.length = ps.length → bindArgs (PySem.W.kla_fn "<lambda>" F.qual F.params F.body F.scope [] pm (.ref F.c) ctv) ⟨us, []⟩ = pure (ps.zip us)) (len : ∀ vs H Q E, sp vs H Q E → vs.length = ps.length)
    (hbody : ∀ (f : Addr) (A : Around) (outer : List Env) (s : Shared) (H : Hp) (vs : List V) (Q : VK) (E : XK), Room k (A.deeper (envF F.nf f s.heap.objs.size)) → sp vs H Q E →
      ∃ t, PE (ncx CX P w K mg base N F.nf f A outer s H E) F.body t ∧ t (startF N vs []) H Q) :
    LOk P w K mg base CX (k + 1) F ps sp := by
  refine ⟨len, fun f A outer s H us vs Q E hr e0 hf hc r hsp => ?_⟩
  have hl := len _ _ _ _ hsp
  have lim : s.heap.NoLimit := e0.mod.nolimit.keeps fun b o e => (e0.bs b o e).1
  obtain ⟨pm, ctv, ho⟩ := lamO_at e0.hok hf
  refine PySem.W.kla_callFunE hr.depth ho rfl S.co S.gen rfl (codeO_at e0.hok hc) ?_
  rw [hb pm ctv us (by rw [← r.length]; exact hl)]
  refine wpAny_pure (wpAny_newFunctionEnv S.nocell (fun ⟨n, _⟩ hy => S.par n (List.of_mem_zip hy).1) (fun h₁ hns hsb => ⟨lim.fresh _ hsb, ?_⟩) S.kind)
  show codeAny _ _ (.expr F.body (envF F.nf f s.heap.objs.size)) _ _
  have kp : ∀ b o, s.heap.get? b = some o → h₁.get? b = some o := fun b o e => hsb.extBut b o (Nat.ne_of_lt (Heap.lt_size e)) (Heap.get?_push_of_some _ e)
  obtain ⟨t, ht, hq⟩ := hbody f A outer s H vs Q E (hr.deeper _) hsp
  have C : CellsAt F.nf.cl ([] : List Str) ([] : List (Option V)) s.heap H := ⟨rfl, fun y c e => (by cases e), fun x y c e => (by cases e), fun i y e => by simp at e⟩
  have J : Inv (ncx CX P w K mg base N F.nf f A outer s H E) [] (startF N vs []) H { s with heap := h₁, toks := s.toks + (ps.zip us).length } := inv_startN (F := F.nf) S hr.hd e0 hl r C hns kp
  refine PySem.W.kla_codeExpr (wpAny_mono (ht.run [] _ _ _ _ J hq) (fun v s' hq => ?_) fun e s' hq => hq)
  obtain ⟨w', H', J', rv, q⟩ := hq
  exact ⟨w', H', J'.os, J'.bare, J'.base, J'.hok, rv, q⟩
end
/-! ### calls -/
/-- the slot i holds one of the lambdas of S -/
def tCallV (i : Nat) (S : LF → Sp → Prop) (E : XK) (t : TA) : TE := fun σ H Q => ∃ (f : Addr) (F : LF) (sp : Sp), σ[i]? = some (some (.ref f)) ∧ S F sp ∧ H f = some (LamO f F) ∧
  t σ H fun vs H1 => H1 f = some (LamO f F) ∧ H1 F.c = some (CodeO F.c F.qual) ∧ sp vs H1 Q E
theorem lamAt {X : Cx} {pins : List (Addr × Obj)} {σ : L2.St} {H : Hp} {s : Shared} {f : Addr} {F : LF} (I : Inv X pins σ H s) (e : H f = some (LamO f F)) : PySem.W.FnAt f s.heap := by
  obtain ⟨pm, ctv, ho⟩ := lamO_at I.hok e
  exact ⟨_, _, _, _, ho⟩
theorem pe_callv {X : Cx} {CX : CXT} {i j k : Nat} {x : Str} {S : LF → Sp → Prop} {E : XK} {t : TA} {e : Expr} {es : List Expr} {p pos : Pos} (Fn : ∀ F sp, S F sp → ∃ ps, LOk X.prog X.w X.K X.mg X.base CX k F ps sp) (hr : Room j X.A) (hk : k ≤ j) (hx : Passes CX X E) (hN : X.N[i]? = some x) (hv : Vis X.env.scope x) (ha : PA X (e :: es) t)
    (hd : (x == ("__debug__" : Str)) = false := by decide) (hcd : (x == ("__classdict__" : Str)) = false := by decide)
    (he : starEach (e :: es) X.env = (false, eval e X.env) :: starEach es X.env := by rfl) (hpl : (backTo pos (starEach es X.env)).any (·.1) = false := by rfl) :
    PE X (.Call (.Name x p) (e :: es) [] pos) (tCallV i S E t) := by
  refine ⟨fun pins s σ H Q I h => ?_⟩
  obtain ⟨f, F, sp, hs, hS, hf, ht⟩ := h
  refine wpAny_Call_Name_kw (thn ((pe_var (pos := p) hN hv hd hcd).run pins s σ H (fun v H1 => v = .ref f ∧ H1 = H) I ⟨.ref f, hs, rfl, rfl⟩) fun u s1 ⟨v, H1, I1, r1, q1⟩ => ?_)
  obtain ⟨ev, eH⟩ := q1
  subst ev
  rw [eH] at I1
  obtain rfl : u = Value.ref f := r1
  refine PySem.W.callWith_F (first := []) (lamAt I1 hf) (thn (ha.run pos pins s1 σ H _ I1 ht) fun us s2 ⟨vs, H2, I2, r, h1, h2, q⟩ => ⟨lamAt I2 h1, ?_⟩) he hpl
  show wpAny _ _ (call (.ref f) us) _ _ _
  obtain ⟨ps, Fk⟩ := Fn F sp hS
  refine wpAny_call (codeAny_mono (Fk.run f X.A X.stack s2 H2 us vs Q E (hr.mono hk) I2.env0 h1 h2 r q) fun r s' hq => ?_)
  cases r with
  | error e => exact hx pins σ H2 s2 e s' I2 hq
  | ok fl =>
    cases fl with
    | ret u => exact I2.after hq
    | next => exact False.elim hq
    | brk => exact False.elim hq
    | cont => exact False.elim hq
end LamV

/-! sorted(xs, key=lambda x: ..) where the lambda captures names of the def around it: the keys are whole numbers, each call of the lambda may make new objects -/
namespace KeyJ
open PySem PySem.W PySem.Calls PyProof.Rows
/-- all but the objects at a and k stay -/
def Keeps2 (a k : Addr) (h h' : Heap) : Prop := ∀ b o, b ≠ a → b ≠ k → h.get? b = some o → h'.get? b = some o
theorem Keeps2.refl (a k : Addr) (h : Heap) : Keeps2 a k h h := fun _ _ _ _ e => e
theorem Keeps2.same {a k c : Addr} {h h' h'' : Heap} (q : Keeps2 a k h h') (hs : Heap.SameBut c h' h'') (hc : c = a ∨ c = k) : Keeps2 a k h h'' := fun b o ha hk e => by
  have hbc : b ≠ c := by
    rintro rfl
    rcases hc with rfl | rfl
    · exact ha rfl
    · exact hk rfl
  exact (hs.2 b hbc).trans (q b o ha hk e)
section
variable {prog : Program} {w : World} {A : Around} {E : Value → Shared → Prop} {s : Shared} {a kS : Addr} {b : Bool} {vs : List Value} {keys : Array Value} {e e1 : Nat} {P : PySem.Fin → Shared → Prop} {kz : List Int}
theorem keyJ_tail {st : SortSt} {out : List Value} (nk : s.heap.get? kS = some (seqObj "list" keys e)) (na : s.heap.get? a = some (seqObj "list" #[] e1)) (hka : kS ≠ a)
    (hsz : keys.size ≤ sizeLine) (hz : out.length ≤ sizeLine) (hfl : failedOf st = none) (ho : (if b = true then ((arrOf st).map (·.2)).reverse else (arrOf st).map (·.2)) = out.toArray)
    (h : ∀ h' tk c, Keeps2 a kS s.heap h' → h'.get? a = some (seqObj "list" out.toArray c) → P (.done (.ret .none)) { s with heap := h', toks := tk }) :
    wpAny (model prog w) A (ksk_tail a b e1 (.ref kS) st) P E s := by
  have s1 := Heap.SameBut.update s.heap kS (Obj.mapSeq fun _ => (#[] : Array Value))
  have na1 : (s.heap.update kS (Obj.mapSeq fun _ => (#[] : Array Value))).get? a = some (seqObj "list" #[] e1) := (s1.2 a hka.symm).trans na
  have s2 := Heap.SameBut.update (s.heap.update kS (Obj.mapSeq fun _ => (#[] : Array Value))) a (Obj.mapSeq fun _ => out.toArray)
  obtain ⟨c2, hc2⟩ : ∃ c2, ((s.heap.update kS (Obj.mapSeq fun _ => (#[] : Array Value))).update a (Obj.mapSeq fun _ => out.toArray)).get? a = some (seqObj "list" out.toArray c2) :=
    ⟨_, get?_update_seq na1 fun _ => out.toArray⟩
  have hz2 : out.toArray.size ≤ sizeLine + 1 := by
    rw [List.size_toArray]
    exact Nat.le_succ_of_le hz
  unfold ksk_tail
  try dsimp only
  rw [ho]
  refine wpAny_bind (listUpdate_at nk rfl ?_ hsz (Nat.zero_le _))
  refine wpAny_bind (wpAny_letGo ?_)
  refine wpAny_bind (seqEpoch_at na1 rfl ?_)
  refine wpAny_bind (listUpdate_at na1 rfl ?_ (Nat.zero_le _) hz2)
  rw [hfl]
  simp only [bne_self_eq_false, Bool.false_eq_true, if_false]
  exact wpAny_pure (h _ _ c2 (((Keeps2.refl a kS s.heap).same s1 (.inr rfl)).same s2 (.inl rfl)) hc2)
theorem keyJ_end {κ : PyProof.Rows.KeyKind} (nk : s.heap.get? kS = some (seqObj "list" keys e)) (na : s.heap.get? a = some (seqObj "list" #[] e1)) (hka : kS ≠ a)
    (S : SortsAt prog w A s κ keys.toList) (hsz : keys.size = vs.length) (hZ : vs.length ≤ sizeLine)
    (h : ∀ h' tk c, Keeps2 a kS s.heap h' → h'.get? a = some (seqObj "list" (sortVals κ b keys.toList vs).toArray c) → P (.done (.ret .none)) { s with heap := h', toks := tk }) :
    wpAny (model prog w) A (ksk_end a b vs.toArray e1 (.ref kS) keys) P E s := by
  obtain ⟨kd, h1, h2⟩ := S.kind
  have hkl : keys.toList.length = vs.length := by
    rw [Array.length_toList]
    exact hsz
  have hK : PyProof.Rows.KeysOf κ (keys.zip vs.toArray) := keysOf_zip S.keys
  have hol : (sortVals κ b keys.toList vs).length = vs.length := sortVals_length b hkl
  have hstart : (if b = true then (keys.zip vs.toArray).reverse else keys.zip vs.toArray).Perm (keys.zip vs.toArray) := by
    cases b with
    | false => exact Array.Perm.refl _
    | true => exact Array.perm_iff_toList_perm.mpr (by rw [if_pos rfl, Array.toList_reverse]; exact List.reverse_perm _)
  have hss : (if b = true then (keys.zip vs.toArray).reverse else keys.zip vs.toArray).size = vs.length := by rw [hstart.size_eq, Array.size_zip, hsz, List.size_toArray, Nat.min_self]
  have fin : ∀ st' : SortSt, (arrOf st').Perm (if b = true then (keys.zip vs.toArray).reverse else keys.zip vs.toArray) → SortedToK κ (arrOf st') (if b = true then (keys.zip vs.toArray).reverse else keys.zip vs.toArray).size →
      Stable κ (arrOf st') (if b = true then (keys.zip vs.toArray).reverse else keys.zip vs.toArray) → (if b = true then ((arrOf st').map (·.2)).reverse else (arrOf st').map (·.2)) = (sortVals κ b keys.toList vs).toArray := by
    intro st' hp hs ht
    have e := sort_out (rev := b) (keys := keys) (items := vs.toArray) (xs := arrOf st') (κ := κ) hK hp hs ht
    have e' := congrArg List.toArray e
    rw [Array.toArray_toList] at e'
    exact e'
  have step : ∀ t : Sem PySem.Fin, wpAny (model prog w) A t P E s → wpAny (model prog w) A (if b = true then (do let _ ← rule "list.sort.reverse"; t) else t) P E s := by
    intro t ht
    split
    · exact wpAny_bind (wpAny_rule ht)
    · exact ht
  unfold ksk_end
  try dsimp only
  refine step _ ?_
  by_cases hl2 : vs.toArray.size < 2
  · rw [if_pos hl2, if_pos hl2]
    refine wpAny_bind (wpAny_pure ?_)
    rw [StateT.run_pure]
    refine wpAny_bind (wpAny_pure ?_)
    try dsimp only
    refine keyJ_tail (st := SortSt.mk' general' (if b = true then (keys.zip vs.toArray).reverse else keys.zip vs.toArray) #[] 7 none) nk na hka (by rw [hsz]; exact hZ) (by rw [hol]; exact hZ) rfl (fin _ (Array.Perm.refl _) ?_ (Stable.refl _)) h
    intro i j hij hj
    rw [hss] at hj
    rw [List.size_toArray] at hl2
    have : i = j := by omega
    subst this
    exact KeyOrd.kle_refl _
  · rw [if_neg hl2, if_neg hl2]
    rw [List.size_toArray] at hl2
    refine wpAny_bind (h2 (by omega) _ ?_)
    refine wpAny_bind (wpAny_mono (H.wpS_sortRunsSt (κ := κ) (kd := kd) (a₀ := if b = true then (keys.zip vs.toArray).reverse else keys.zip vs.toArray)
      (st := SortSt.mk' kd (if b = true then (keys.zip vs.toArray).reverse else keys.zip vs.toArray) #[] 7 none)
      (Q := fun _ st' => failedOf st' = none ∧ (if b = true then ((arrOf st').map (·.2)).reverse else (arrOf st').map (·.2)) = (sortVals κ b keys.toList vs).toArray)
      h1 (hK.perm hstart) ⟨Array.Perm.refl _, rfl, rfl⟩ rfl (Stable.refl _) (by rw [hss]; omega) fun st' a1 a2 a3 a4 => ⟨a2, fin st' a1 a3 a4⟩) ?_ fun _ _ e => e)
    rintro ⟨⟨⟩, st'⟩ s' ⟨rfl, hf, ho⟩
    try dsimp only at ho ⊢
    exact keyJ_tail nk na hka (by rw [hsz]; exact hZ) (by rw [hol]; exact hZ) hf ho h
theorem alike_ints {ks : List Int} : AllAlike (ks.map PyData.int) := fun d hd d' hd' => by
  obtain ⟨i, _, rfl⟩ := List.mem_map.mp hd
  obtain ⟨j, _, rfl⟩ := List.mem_map.mp hd'
  rfl
theorem sortable_ints {ks : List Int} : Sortable (ks.map PyData.int) := .inr fun d hd => by
  obtain ⟨i, _, rfl⟩ := List.mem_map.mp hd
  exact ⟨(fun z => nomatch z), fun _ z => nomatch z⟩
theorem each_ints {h : Heap} : ∀ {l : List Value} {ks : List Int}, EachIs (fun v k => ∃ t, v = Value.int k t) l ks → EachIs (fun v k => ∃ as, Reads h v k as) l (ks.map PyData.int)
  | _, _, .nil => .nil
  | _, _, .cons ⟨t, e⟩ r => .cons ⟨[], by rw [e]; exact .int _ t⟩ (each_ints r)
theorem keyJ_rest {f : Value} {J : Shared → Prop} (nk : s.heap.get? kS = some (seqObj "list" #[] 0)) (na : s.heap.get? a = some (seqObj "list" #[] e1)) (hka : kS ≠ a)
    (hlen : kz.length = vs.length) (hZ : vs.length ≤ sizeLine) (hu : A.units + 2 < cLine) (j0 : J s) (js : ∀ s1 h' tk, J s1 → Keeps2 a kS s1.heap h' → J { s1 with heap := h', toks := tk })
    (turn : ∀ (i : Nat) (v : Value) (k : Int), vs[i]? = some v → kz[i]? = some k → ∀ s1, J s1 → (∃ o, s1.heap.get? a = some o) → (∃ o, s1.heap.get? kS = some o) →
      wpAny (model prog w) A (call f [v]) (fun u s2 => J s2 ∧ (∀ b o, b = a ∨ b = kS → s1.heap.get? b = some o → s2.heap.get? b = some o) ∧ ∃ t, u = .int k t) (fun _ _ => False) s1)
    (h : ∀ s' out c, J s' → s'.heap.get? a = some (seqObj "list" (List.toArray out) c) → KeyedOut b (kz.map PyData.int) vs out → P (.done (.ret .none)) s') :
    wpAny (model prog w) A (ksk_rest a f b vs.toArray e1 (.ref kS)) P E s := by
  unfold ksk_rest
  refine wpAny_bind (wpAny_rule ?_)
  first
    | rw [List.forIn_toArray]
    | (rw [← Array.forIn_toList]; simp only [List.toList_toArray])
    | rw [← Array.forIn_toList]
  refine wpAny_bind (ksk_fold (fun i s' => ∃ kA e, J s' ∧ s'.heap.get? kS = some (seqObj "list" kA e) ∧ s'.heap.get? a = some (seqObj "list" #[] e1) ∧ EachIs (fun v k => ∃ t, v = Value.int k t) kA.toList (kz.take i)) vs 0 s
    ⟨#[], 0, j0, nk, na, by rw [List.take_zero]; exact EachIs.nil⟩ ?step ?done)
  case step =>
    rintro j x s' hx ⟨kA, e, j', nk', na', hk⟩
    simp only [Nat.zero_add] at hk ⊢
    have hj : j < vs.length := (List.getElem?_eq_some_iff.mp hx).1
    obtain ⟨k, hkj⟩ : ∃ k, kz[j]? = some k := ⟨_, List.getElem?_eq_getElem (by omega)⟩
    have hz : kA.size ≤ vs.length := by
      have h1 := hk.length
      rw [Array.length_toList, List.length_take] at h1
      omega
    refine wpAny_bind (wpAny_attempt (wpAny_mono (turn j x k hx hkj s' j' ⟨_, na'⟩ ⟨_, nk'⟩) (fun v s'' he => ?_) fun _ _ hF => hF.elim))
    obtain ⟨j2, hkp, t, rfl⟩ := he
    try dsimp only
    have nk2 := hkp _ _ (.inr rfl) nk'
    have na2 := hkp _ _ (.inl rfl) na'
    have s1 := Heap.SameBut.update s''.heap kS (Obj.mapSeq (·.push (Value.int k t)))
    obtain ⟨c2, hc2⟩ : ∃ c2, (s''.heap.update kS (Obj.mapSeq (·.push (Value.int k t)))).get? kS = some (seqObj "list" (kA.push (Value.int k t)) c2) := ⟨_, get?_update_seq nk2 (·.push (Value.int k t))⟩
    have ek : kz.take (j + 1) = kz.take j ++ [k] := by rw [List.take_add_one, hkj]; simp
    have ea : (kA.push (Value.int k t)).toList = kA.toList ++ [Value.int k t] := by simp
    refine wpAny_bind (listUpdate_at nk2 rfl ?_ (Nat.le_trans hz hZ) (Nat.le_trans (Nat.le_of_eq (Array.size_push ..)) (Nat.succ_le_succ (Nat.le_trans hz hZ))))
    refine wpAny_pure ⟨rfl, kA.push (Value.int k t), c2, js s'' _ s''.toks j2 ((Keeps2.refl a kS s''.heap).same s1 (.inr rfl)), hc2, (s1.2 a hka.symm).trans na2, ?_⟩
    rw [ea, ek]
    exact each_snoc (R := fun (u : Value) (d : Int) => ∃ t, u = Value.int d t) ⟨t, rfl⟩ hk
  case done =>
    rintro s' ⟨kA, e, j', nk', na', hk⟩
    have e3 : kz.take (0 + vs.length) = kz := List.take_of_length_le (by omega)
    rw [e3] at hk
    have hsz : kA.size = vs.length := by
      have h1 := hk.length
      rw [Array.length_toList] at h1
      omega
    have hk' : EachIs (fun v k => ∃ as, Reads s'.heap v k as) kA.toList (kz.map PyData.int) := each_ints hk
    try dsimp only
    refine wpAny_bind (listItems_at nk' rfl ?_)
    refine keyJ_end (κ := dataKind s'.heap (kz.map PyData.int)) nk' na' hka (SortsAt.data hk' alike_ints sortable_ints fun d hd => ?_) hsz hZ fun h3 tk3 c k3 n3 => h _ _ c (js _ _ _ j' k3) n3 ⟨s'.heap, kA.toList, alike_ints, rfl, hk'⟩
    obtain ⟨i, _, rfl⟩ := List.mem_map.mp hd
    exact Nat.lt_of_le_of_lt (show A.units + (PyData.int i).depth ≤ A.units + 2 from Nat.add_le_add_left (by simp [PyData.depth]) _) hu
theorem keyJ_tree {f : Value} {n : Nat} {J : Addr → Shared → Prop} (ho : s.heap.get? a = some (seqObj "list" vs.toArray n)) (hlen : kz.length = vs.length) (hZ : vs.length ≤ sizeLine) (hu : A.units + 2 < cLine)
    (j0 : ∀ kS h' tk, s.heap.objs.size ≤ kS → kS ≠ a → KeepsBut a s.heap h' → J kS { s with heap := h', toks := tk }) (js : ∀ kS s1 h' tk, J kS s1 → Keeps2 a kS s1.heap h' → J kS { s1 with heap := h', toks := tk })
    (turn : ∀ (kS : Addr) (i : Nat) (v : Value) (k : Int), vs[i]? = some v → kz[i]? = some k → ∀ s1, J kS s1 → (∃ o, s1.heap.get? a = some o) → (∃ o, s1.heap.get? kS = some o) →
      wpAny (model prog w) A (call f [v]) (fun u s2 => J kS s2 ∧ (∀ b o, b = a ∨ b = kS → s1.heap.get? b = some o → s2.heap.get? b = some o) ∧ ∃ t, u = .int k t) (fun _ _ => False) s1)
    (h : ∀ kS s' out c, J kS s' → s'.heap.get? a = some (seqObj "list" (List.toArray out) c) → KeyedOut b (kz.map PyData.int) vs out → P (.done (.ret .none)) s') :
    wpAny (model prog w) A (ksk_tree a f b) P E s := by
  have ha : a < s.heap.objs.size := Heap.lt_size ho
  obtain ⟨e1, ho1⟩ : ∃ e1, (s.heap.update a (Obj.mapSeq fun _ => (#[] : Array Value))).get? a = some (seqObj "list" #[] e1) := ⟨_, get?_update_seq ho fun _ => #[]⟩
  have hkS : ((s.heap.update a (Obj.mapSeq fun _ => (#[] : Array Value))).push (seqObj "tuple" vs.toArray 0)).objs.size = s.heap.objs.size + 1 := by rw [size_push', Heap.size_update]
  unfold ksk_tree
  refine wpAny_bind (listItems_at ho rfl ?_)
  refine wpAny_bind (listUpdate_at ho rfl ?_ (by rw [List.size_toArray]; exact hZ) (Nat.zero_le _))
  refine wpAny_bind (seqEpoch_at ho1 rfl ?_)
  refine wpAny_bind (wpAny_newTuple ?_ (by show vs.length ≤ _; exact hZ))
  refine wpAny_bind (wpAny_newList ?_ (Nat.zero_le _))
  refine wpAny_holding ?_
  have kp : KeepsBut a s.heap (sortingHeap s.heap a vs) := fun b o hb q => sortingHeap_old hb q
  have nk : s.heap.get? ((s.heap.update a (Obj.mapSeq fun _ => (#[] : Array Value))).push (seqObj "tuple" vs.toArray 0)).objs.size = none := Heap.get?_none_of_le (by rw [hkS]; exact Nat.le_succ _)
  have hka : ((s.heap.update a (Obj.mapSeq fun _ => (#[] : Array Value))).push (seqObj "tuple" vs.toArray 0)).objs.size ≠ a := by rw [hkS]; exact Nat.ne_of_gt (Nat.lt_succ_of_lt ha)
  exact keyJ_rest (J := J _) (kz := kz) (s := { s with heap := ((s.heap.update a (Obj.mapSeq fun _ => (#[] : Array Value))).push (seqObj "tuple" vs.toArray 0)).push (seqObj "list" #[] 0) }) (kS := ((s.heap.update a (Obj.mapSeq fun _ => (#[] : Array Value))).push (seqObj "tuple" vs.toArray 0)).objs.size)
    (Heap.get?_push_size _ rfl) (Heap.get?_push_of_some _ (Heap.get?_push_of_some _ ho1)) hka hlen hZ hu (j0 _ _ s.toks (by rw [hkS]; exact Nat.le_succ _) hka kp) (js _) (turn _) (h _)
/-- sorted(xs, key=f) -/
theorem sorted_keyJ {l : Addr} {f : Addr} {Q : Value → Shared → Prop} {J : Addr → Shared → Prop} (hl : s.heap.IsList l vs.toArray) (hlen : kz.length = vs.length) (hL : vs.length ≤ sizeLine) (hu : A.units + 4 < cLine)
    (j0 : ∀ kS h' tk, s.heap.objs.size ≤ kS → kS ≠ s.heap.objs.size + 1 → (∀ b o, s.heap.get? b = some o → h'.get? b = some o) → J kS { s with heap := h', toks := tk })
    (js : ∀ kS s1 h' tk, J kS s1 → Keeps2 (s.heap.objs.size + 1) kS s1.heap h' → J kS { s1 with heap := h', toks := tk })
    (turn : ∀ (kS : Addr) (i : Nat) (v : Value) (k : Int), vs[i]? = some v → kz[i]? = some k → ∀ s1, J kS s1 → (∃ o, s1.heap.get? (s.heap.objs.size + 1) = some o) → (∃ o, s1.heap.get? kS = some o) →
      wpAny (model prog w) A.in1.in1 (call (.ref f) [v]) (fun u s2 => J kS s2 ∧ (∀ b o, b = s.heap.objs.size + 1 ∨ b = kS → s1.heap.get? b = some o → s2.heap.get? b = some o) ∧ ∃ t, u = .int k t) (fun _ _ => False) s1)
    (h : ∀ kS s' out c, J kS s' → s'.heap.get? (s.heap.objs.size + 1) = some (seqObj "list" (List.toArray out) c) → KeyedOut false (kz.map PyData.int) vs out → Q (.ref (s.heap.objs.size + 1)) s') :
    wpAny (model prog w) A (call (.builtin "sorted") [.ref l] [(Str.ofString "key", .ref f)]) Q E s := by
  have up : ∀ {g : Heap}, KeepsBut (s.heap.objs.size + 1) (copyHeap s.heap vs) g → ∀ b o, s.heap.get? b = some o → g.get? b = some o := fun {g} kp b o q =>
    kp b o (Nat.ne_of_lt (Nat.lt_succ_of_lt (Heap.lt_size q))) (copyHeap_old q)
  refine sorted_of_sort hl hL (ksk_s1 _ _) (fun _ => ksk_l1 _ _) fun E' => ?_
  rw [ksk_t1]
  refine keyJ_tree (J := J) (kz := kz) (s := { s with heap := copyHeap s.heap vs }) (copyHeap_at s.heap vs) hlen hL hu (fun kS h' tk hk hka kp => j0 kS h' tk (Nat.le_trans (Nat.le_of_lt (Nat.lt_of_succ_lt (Heap.lt_size (copyHeap_at s.heap vs)))) hk) hka (up kp)) js turn fun kS s' out c jj hD ko => ⟨rfl, h kS s' out c jj hD ko⟩
end
end KeyJ
namespace SortLam
open PySem PySem.Spec PySem.W PyProof.Rows L2 LamX NdefX
section
variable {X : Cx} {pins : List (Addr × Obj)} {σ : L2.St} {H : Hp} {s : Shared}
/-- an object that came later, of which nothing is told -/
structure Later (X : Cx) (pins : List (Addr × Obj)) (H : Hp) (b : Addr) : Prop where
  late : X.s_0.heap.objs.size ≤ b
  loc : b ≠ X.env.locals
  cell : ∀ x c, X.env.cells.lookup x = some c → c ≠ b
  pin : ∀ p ∈ X.pn ++ pins, p.1 ≠ b
  fr : b ∉ frs X.stack
  none : H b = none
theorem later_of {b : Addr} (I : Inv X pins σ H s) (lt : s.heap.objs.size ≤ b) : Later X pins H b := by
  have h : s.heap.get? b = Option.none := Heap.get?_none_of_le lt
  refine ⟨Nat.le_trans I.sz lt, fun z => ?_, fun x c e z => ?_, fun q hq z => ?_, fun z => ?_, I.hok.fresh lt⟩
  · have := I.lt
    rw [← z] at this
    exact Nat.lt_irrefl _ (Nat.lt_of_lt_of_le this lt)
  · obtain ⟨v, o, ho, _⟩ := I.cell x c e
    rw [z, h] at ho
    cases ho
  · have := (I.pin q hq).1
    rw [z, h] at this
    cases this
  · rcases List.mem_cons.mp (I.stkSub _ z) with e | e
    · have h1 := I.lt
      rw [← e] at h1
      exact Nat.lt_irrefl _ (Nat.lt_of_lt_of_le h1 lt)
    · exact I.nofs lt e
theorem Later.mono {b : Addr} {H' : Hp} (l : Later X pins H b) (h : H' b = Option.none) : Later X pins H' b := ⟨l.late, l.loc, l.cell, l.pin, l.fr, h⟩
/-- objects of which nothing is told may be changed -/
theorem inv_chg {ch : List Addr} {h' : Heap} {t' : Nat} (I : Inv X pins σ H s) (hch : ∀ b ∈ ch, Later X pins H b) (keep : ∀ b o, b ∉ ch → s.heap.get? b = some o → h'.get? b = some o) : Inv X pins σ H { s with heap := h', toks := t' } := by
  refine I.step (g' := s.gens) (d' := s.drawn) (ch := ch) (fun b hb => ⟨.inr (hch b hb).late, (hch b hb).loc, (hch b hb).cell, (hch b hb).pin⟩) (fun b o _ _ n e _ => keep b o n e) (fun b o _ _ n e _ => ⟨o.slots, keep b o n e⟩) (fun b o _ _ n => n) (fun b o n e => ⟨o, keep b o n e⟩)
    (fun b xs e => e) (fun b o u e => e) (fun b ps e => ⟨#[], by simpa using e⟩) (fun m hn => ?_) (fun b u e => ?_) I.bare
  · obtain ⟨ob, es, ep, ho, r⟩ := hn
    exact ⟨ob, es, ep, keep _ ob (fun hb => (hch _ hb).loc rfl) ho, r⟩
  · have nb : ∀ d v, H d = some v → d ∉ ch := fun d v e hb => by
      have := (hch d hb).none
      rw [this] at e
      cases e
    refine (I.hok b u e).stay (fun d v hd q => keep d v ?_ q) (fun d q => q) fun d xs q => q
    rcases hd with z | z
    · rw [z]; exact nb b u e
    · exact nb d _ z
/-- an object is told from now on -/
theorem inv_tell {D : Addr} {o : HO} (I : Inv X pins σ H s) (l : Later X pins H D) (new : ObjOk X.prog X.w (upd H D o) s.heap D o) : Inv X pins σ (upd H D o) s := by
  have ne : ∀ d v, H d = some v → d ≠ D := fun d v e z => by
    have := l.none
    rw [← z, e] at this
    cases this
  have up : ∀ d v, H d = some v → upd H D o d = some v := fun d v e => by rw [upd_ne (ne d v e)]; exact e
  refine I.step (h' := s.heap) (g' := s.gens) (t' := s.toks) (d' := s.drawn) (ch := [D]) (fun b hb => ?_) (fun b o _ _ n e _ => e) (fun b o _ _ n e _ => ⟨o.slots, e⟩) (fun b o' n e q => ?_) (fun b o n e => ⟨o, e⟩)
    (fun b xs e => up _ _ e) (fun b o u e => up _ _ e) (fun b ps e => ⟨#[], by simpa using up _ _ e⟩) (fun m hn => hn) (fun b u e => ?_) I.bare
  · rw [List.mem_singleton.mp hb]
    exact ⟨.inr l.late, l.loc, l.cell, l.pin⟩
  · rw [upd_ne (fun z => n (by rw [z]; exact List.mem_cons_self))]
    exact q
  · by_cases hb : b = D
    · rw [hb, upd_same] at e
      cases e
      rw [hb]
      exact new
    · rw [upd_ne hb] at e
      exact (I.hok b u e).stay (fun d v hd q => q) (fun d q => up _ _ q) fun d xs q => up _ _ q
/-- the lambda called -/
theorem lam_run {N ps fr : List Str} {js : List Nat} {q : Str} {params : Arguments} {body : Expr} {scope : Scope} {f c' : Addr} {pm ctv : Value} {A : Around} {k : Nat} {t : TE} {vs : List V} {us : List Value} {Q : VK} (I : Inv X pins σ H s) (S : NScope N ps fr scope)
    (hf : s.heap.get? f = some (PySem.W.kla_obj "<lambda>" q params body scope (cloFrom X.env.cells scope.names []) pm c' ctv)) (hc : H c' = some (CodeO c' q)) (cp : Caps X (cloFrom X.env.cells scope.names []) fr js)
    (hb : ∀ (cl : List (Str × Addr)) (pm cv ctv : Value) (us : List Value), us.length = ps.length → bindArgs (PySem.W.kla_fn "<lambda>" q params body scope cl pm cv ctv) ⟨us, []⟩ = pure (ps.zip us)) (hr : Room (k + 1) A) (e0 : Env0 X.prog X.w X.K X.mg X.base A X.stack s H)
    (hbody : ∀ (A : Around) (outer : List Env) (s : Shared) (H : Hp) (F : NF), F.scope = scope → Room k (A.deeper (envF F f s.heap.objs.size)) → PE (ncx C8.CX0 X.prog X.w X.K X.mg X.base N F f A outer s H C8.E0) body t)
    (hl : vs.length = ps.length) (r : Vals vs us) (ht : t (startF N vs (js.map (slotAt σ))) H Q) : codeAny (model X.prog X.w) A (.call (.ref f) ⟨us, []⟩) (CR C8.CX0 X.stack X.prog X.w H s Q C8.E0) s := by
  have lim : s.heap.NoLimit := e0.mod.nolimit.keeps fun b o e => (e0.bs b o e).1
  refine PySem.W.kla_callFunE hr.depth hf rfl S.co S.gen rfl (codeO_at e0.hok hc) ?_
  rw [hb _ _ _ _ us (by rw [← r.length]; exact hl)]
  refine wpAny_pure (wpAny_newFunctionEnv S.nocell (fun ⟨n, _⟩ hy => S.par n (List.of_mem_zip hy).1) (fun h₁ hns hsb => ⟨lim.fresh _ hsb, ?_⟩) S.kind)
  show codeAny _ _ (.expr body (envF (⟨"<lambda>", q, params, [], scope, cloFrom X.env.cells scope.names [], c'⟩ : NF) f s.heap.objs.size)) _ _
  have kp : ∀ b o, s.heap.get? b = some o → h₁.get? b = some o := fun b o e => hsb.extBut b o (Nat.ne_of_lt (Heap.lt_size e)) (Heap.get?_push_of_some _ e)
  have J : Inv (ncx C8.CX0 X.prog X.w X.K X.mg X.base N (⟨"<lambda>", q, params, [], scope, cloFrom X.env.cells scope.names [], c'⟩ : NF) f A X.stack s H C8.E0) [] (startF N vs (js.map (slotAt σ))) H { s with heap := h₁, toks := s.toks + (ps.zip us).length } :=
    inv_startN (F := (⟨"<lambda>", q, params, [], scope, cloFrom X.env.cells scope.names [], c'⟩ : NF)) S hr.hd e0 hl r (cells_of I cp) hns kp
  refine PySem.W.kla_codeExpr (wpAny_mono ((hbody A X.stack s H (⟨"<lambda>", q, params, [], scope, cloFrom X.env.cells scope.names [], c'⟩ : NF) rfl (hr.deeper _)).run [] _ _ _ _ J ht) (fun v s' hq => ?_) fun e s' hq => hq)
  obtain ⟨w', H', J', rv, q⟩ := hq
  exact ⟨w', H', J'.os, J'.bare, J'.base, J'.hok, rv, q⟩
end
/-- sorted(e, key=lambda x: ..) -/
def tSortK (K : PySem.W.Frag) (T : List (Addr × Str)) (N : List Str) (js : List Nat) (te tb : TE) : TE := fun σ H Q =>
  te σ H fun v H1 => Tabs T H1 ∧ ∀ H2, ExtN H1 H2 → Tabs T H2 → ∃ (a : Addr) (xs : List V) (kf : V → Int), v = .ref a ∧ SqL K H2 a xs ∧
    (∀ x ∈ xs, ∀ (H3 : Hp) (Q' : VK), (∀ b o, H2 b = some o → H3 b = some o) → (∀ H4, (∀ b o, H3 b = some o → H4 b = some o) → Q' (.int (kf x)) H4) → tb (startF N [x] (js.map (slotAt σ))) H3 Q') ∧
    ∀ H3 D, (∀ b o, H2 b = some o → H3 b = some o) → H3 D = none → Q (.ref D) (upd H3 D (.lst (xs.mergeSort fun x y => decide (kf x ≤ kf y))))
theorem dataLe_int {kf : V → Int} : dataLe false (fun x : V => PyData.int (kf x)) = fun x y => decide (kf x ≤ kf y) := by
  funext x y
  show (!PyProof.Rows.lexLt itemOrd [.inl (kf y)] [.inl (kf x)]) = _
  by_cases h : kf y < kf x
  · have : ¬ kf x ≤ kf y := by omega
    rw [decide_eq_false this]
    simp [PyProof.Rows.lexLt, itemLt, h]
  · have h2 : kf x ≤ kf y := by omega
    rw [decide_eq_true h2]
    have h3 : ¬ kf y < kf x := h
    simp [PyProof.Rows.lexLt, itemLt, h3]
theorem vals_each : ∀ {xs : List V} {us : List Value}, Vals xs us → EachIs (fun (u : Value) (x : V) => RelV x u) us xs
  | _, _, .nil => .nil
  | _, _, .cons r rs => .cons r (vals_each rs)
theorem each_vals : ∀ {xs : List V} {us : List Value}, EachIs (fun (u : Value) (x : V) => RelV x u) us xs → Vals xs us
  | _, _, .nil => .nil
  | _, _, .cons r rs => .cons r (each_vals rs)
section
variable {X : Cx} {T : List (Addr × Str)} {c P : Addr} {N fr : List Str} {js : List Nat} {x : Str} {e : Expr} {te tb : TE} {params : Arguments} {body : Expr} {scope : Scope} {lpos kpos p pos : Pos} {k : Nat}
theorem pe_sortK (hg : Gl X "sorted") (hm : X.mg "sorted" = none) (ha : PE X e te) (TB : TabB X.base X.mg c P) (hcode : X.env.code = .ref c) (hmT : (P, X.env.qual ++ "<lambda>") ∈ T) (hu : ∀ p ∈ T, p.1 = P → p.2 = X.env.qual ++ "<lambda>") (hr : Room (k + 3) X.A)
    (S : NScope N [x] fr scope) (L : ndefB X.env.scope scope fr = true) (hjs : js.map (fun j => X.N[j]?) = fr.map some) (hdef : defaultsOf params X.env = ([], []))
    (hb : ∀ (q : Str) (cl : List (Str × Addr)) (pm cv ctv : Value) (us : List Value), us.length = [x].length → bindArgs (PySem.W.kla_fn "<lambda>" q params body scope cl pm cv ctv) ⟨us, []⟩ = pure ([x].zip us))
    (hbody : ∀ (A : Around) (outer : List Env) (s : Shared) (H : Hp) (F : NF) (f : Addr), F.scope = scope → Room k (A.deeper (envF F f s.heap.objs.size)) → PE (ncx C8.CX0 X.prog X.w X.K X.mg X.base N F f A outer s H C8.E0) body tb)
    (hs : starEach [e] X.env = (false, eval e X.env) :: starEach [] X.env := by rfl) (he : backTo pos (starEach [e] X.env) = (false, eval e X.env) :: backTo pos (starEach [] X.env) := by rfl) (hpl : (backTo pos (starEach [e] X.env)).any (·.1) = false := by rfl) :
    PE X (.Call (.Name "sorted" p) [e] [⟨some "key", .Lambda params body scope lpos, kpos⟩] pos) (tSortK X.K T N js te tb) := by
  refine ⟨fun pins s σ H Q I h => ?_⟩
  refine wpAny_Call_Name_kw (ld_blt I hg hm (by rfl) ?_ (by decide) (by decide))
  refine PyProof.Rows.callWith_kw (thn ((pa_cons ha pa_nil (hs := hs)).run pos pins s σ H (fun xs H1 => match xs with
    | [v] => Tabs T H1 ∧ ∀ H2, ExtN H1 H2 → Tabs T H2 → ∃ (a : Addr) (xs : List V) (kf : V → Int), v = .ref a ∧ SqL X.K H2 a xs ∧
      (∀ x ∈ xs, ∀ (H3 : Hp) (Q' : VK), (∀ b o, H2 b = some o → H3 b = some o) → (∀ H4, (∀ b o, H3 b = some o → H4 b = some o) → Q' (.int (kf x)) H4) → tb (startF N [x] (js.map (slotAt σ))) H3 Q') ∧
      ∀ H3 D, (∀ b o, H2 b = some o → H3 b = some o) → H3 D = none → Q (.ref D) (upd H3 D (.lst (xs.mergeSort fun x y => decide (kf x ≤ kf y))))
    | _ => False) I h) fun us s1 ⟨vs, H1, I1, r1, q1⟩ => ?_) he hpl rfl rfl
  match vs, r1, q1 with
  | [v], r1, q1 =>
  obtain ⟨hT, q1⟩ := q1
  show wpAny _ _ (evalAll [(do let v ← eval (.Lambda params body scope lpos) X.env; standAt pos; pure v)]) _ _ s1
  have hfree : ∀ y ∈ scope.names, y.2 = .free → ∃ c, X.env.cells.lookup y.1 = some c := fun y hy e => (ndef_free L y hy e).elim (fun z => I1.ok.has _ (.inl z)) fun z => I1.ok.has _ (.inr z)
  refine wpAny_evalAll_cons (wpAny_bind (lam_make2 I1 TB hcode hmT hu hT hdef hfree fun f c' pm ctv H2 s2 I2 eN T2 hf hfn hfr hco => wpAny_bind (wpAny_standAt (wpAny_pure ?_))))
  refine wpAny_evalAll_nil ?_
  obtain ⟨a, xs, kf, rfl, hs, hq, hfin⟩ := q1 H2 eN T2
  obtain rfl := Vals.ref1 r1
  obtain ⟨its, rv, hl, hz⟩ := I2.list hs
  have hil : its.length = xs.length := rv.length.symm
  have flt : f < s2.heap.objs.size := Heap.lt_size hf
  show wpAny _ _ (call (.builtin "sorted") [.ref a] [(Str.ofString "key", .ref f)]) _ _ s2
  refine KeyJ.sorted_keyJ (kz := xs.map kf) (J := fun kS s' => ∃ H', Inv X pins σ H' s' ∧ (∀ b o, H2 b = some o → H' b = some o) ∧ Later X pins H' (s2.heap.objs.size + 1) ∧ Later X pins H' kS ∧
      s'.heap.get? f = some (PySem.W.kla_obj "<lambda>" (X.env.qual ++ "<lambda>") params body scope (cloFrom X.env.cells scope.names []) pm c' ctv) ∧ H' f = none ∧ f ≠ kS) hl.isList (by rw [List.length_map]; exact hil.symm) (by rw [hil]; exact hz) (by have := hr.un; omega) ?_ ?_ ?_ ?_
  · intro kS h' tk hk hka hkeep
    exact ⟨H2, I2.kept hkeep, fun _ _ e => e, later_of I2 (Nat.le_succ _), later_of I2 hk, hkeep _ _ hf, hfn, Nat.ne_of_lt (Nat.lt_of_lt_of_le flt hk)⟩
  · rintro kS s1 h' tk ⟨H', I', ext, lD, lk, hf', hn', hne⟩ K2
    refine ⟨H', inv_chg (ch := [s2.heap.objs.size + 1, kS]) I' (fun b hb => ?_) (fun b o hb e => K2 b o (fun z => hb (by rw [z]; exact List.mem_cons_self)) (fun z => hb (by rw [z]; exact List.mem_cons_of_mem _ List.mem_cons_self)) e), ext, lD, lk, K2 _ _ (Nat.ne_of_lt (Nat.lt_succ_of_lt flt)) hne hf', hn', hne⟩
    simp only [List.mem_cons, List.not_mem_nil, or_false] at hb
    rcases hb with rfl | rfl
    · exact lD
    · exact lk
  · rintro kS i v k' hv hk s1 ⟨H', I', ext, lD, lk, hf', hn', hne⟩ ⟨oD, hoD⟩ ⟨ok, hok1⟩
    obtain ⟨x1, hx1, rfl⟩ : ∃ x1, xs[i]? = some x1 ∧ kf x1 = k' := by
      rw [List.getElem?_map] at hk
      cases q : xs[i]? with
      | none => rw [q] at hk; cases hk
      | some x1 => rw [q] at hk; exact ⟨x1, rfl, Option.some.inj hk⟩
    obtain ⟨u1, hu1, rx⟩ := rv.get hx1
    rw [hv] at hu1
    cases hu1
    refine wpAny_call (codeAny_mono (lam_run (k := k) (Q := fun v H4 => v = .int (kf x1) ∧ ∀ b o, H' b = some o → H4 b = some o) I' S hf' (ext _ _ hco) (Caps.made I'.ok (ndef_free L) (ndef_fr L) hjs) (fun cl pm cv ctv us => hb _ cl pm cv ctv us) (hr.in1.in1) I'.env0.in1.in1 (fun A outer s H F hF hr2 => hbody A outer s H F f hF hr2) (vs := [x1]) rfl (.cons rx .nil) (hq x1 (List.mem_of_getElem? hx1) H' _ ext fun H4 e4 => ⟨rfl, e4⟩)) fun r s' hq' => ?_)
    cases r with
    | error e => exact (show False from hq').elim
    | ok fl =>
      cases fl with
      | ret u =>
        obtain ⟨v2, H4, os, bare, un, hok, r2, rfl, q2⟩ := hq'
        obtain ⟨hh, g, d, t, os'⟩ := s'
        obtain rfl : os' = s1.os := os
        have I4 := I'.call (h' := hh) (g' := g) (d' := d) (t' := t) (ch := []) un hok bare (fun b z => absurd z (by simp))
        have nn : ∀ b : Addr, b ∉ ([] : List Addr) := fun b z => nomatch z
        refine ⟨⟨H4, I4, fun b o e => q2 b o (ext b o e), lD.mono (un.free _ _ hoD lD.none (nn _)), lk.mono (un.free _ _ hok1 lk.none (nn _)), un.keep _ _ hf' hn' hfr (nn _), un.free _ _ hf' hn' (nn _), hne⟩, fun b o hb e => ?_, ?_⟩
        · rcases hb with rfl | rfl
          · exact un.keep _ _ e lD.none lD.fr (nn _)
          · exact un.keep _ _ e lk.none lk.fr (nn _)
        · obtain ⟨t, ht⟩ := r2
          exact ⟨t, ht⟩
      | next => exact False.elim hq'
      | brk => exact False.elim hq'
      | cont => exact False.elim hq'
  · rintro kS s' out c2 ⟨H', I', ext, lD, lk, hf', hn', hne⟩ hD ko
    have ev : Vals (xs.mergeSort fun x y => decide (kf x ≤ kf y)) out := by
      rw [← dataLe_int]
      refine each_vals (keyedOut_each (k := fun x : V => PyData.int (kf x)) ?_ (vals_each rv))
      rw [List.map_map] at ko
      exact ko
    exact ⟨.ref _, upd H' (s2.heap.objs.size + 1) (.lst (xs.mergeSort fun x y => decide (kf x ≤ kf y))), inv_tell I' lD ⟨by rw [List.length_mergeSort]; exact hz, out, c2, ev, hD⟩, rfl, hfin H' _ ext lD.none⟩
end
end SortLam

/-! a slice of a tuple that is the whole of it: the tuple itself -/
namespace HT
open PySem PySem.Spec PyProof.Rows
section
variable {prog : Program} {w : World} {A : Around} {E : Value → Shared → Prop} {s : Shared}
theorem getItem_tuple_whole {t sl : Addr} {items : Array Value} {vl vu : Value} {lo hi : Option Int} {Q : Value → Shared → Prop} (ht : IsTup s.heap t items) (hs : s.heap.IsSliceOf sl vl vu .none) (pl : IsPart vl lo) (pu : IsPart vu hi)
    (hw : sIx items.size 0 lo = 0 ∧ sIx items.size items.size hi = items.size) (h : Q (.ref t) s) : wpAny (model prog w) A (getItem (.ref t) (.ref sl)) Q E s := by
  obtain ⟨os, hos, hcs, hds⟩ := id hs
  have hTs : s.TypeIs (.ref sl) "slice" := ⟨os, hos, hcs⟩
  unfold getItem
  try with_reducible refine wpAny_holding ?_
  first | refine wpAny_bind (wpAny_pure ?_) | skip
  refine wpAny_bind (wpAny_sequenceKey ht.typeIs (by decide) ?_)
  refine wpAny_bind (wpAny_callSpecial?_slot (name := Str.ofString "__getitem__") ht.typeIs PyProof.Rows.slot_tuple_getitem
    (wpAny_call_entry PyProof.Rows.slot_tuple_getitem ht.typeIs entry_tuple_getitem ?_ (args_tuple_getitem _ _)))
  show wpAny _ _ (Builtin.Tuple.tupleItemsOf (.ref t) >>= _) _ _ s
  refine wpAny_bind (tupleItemsOf_ ht ?_)
  refine wpAny_bind (wpAny_typeOf hTs ?_)
  rw [if_pos (by decide)]
  refine wpAny_bind (sliceApplied_gen hs pl pu ?_)
  have hyes : ((((sIx items.size 0 lo : Nat) : Int) == 0 && (1 : Int) == 1 && (sIx items.size items.size hi - sIx items.size 0 lo) == items.size) = true) := by
    rw [hw.1, hw.2]
    simp
  show wpAny _ _ (if (((sIx items.size 0 lo : Nat) : Int) == 0 && (1 : Int) == 1 && (sIx items.size items.size hi - sIx items.size 0 lo) == items.size) = true then _ else _) _ _ s
  rw [if_pos hyes]
  have hx : ∀ (A : Around) (E : Value → Shared → Prop) (R : Bool → Shared → Prop), R true s → wpAny (model prog w) A (Builtin.Tuple.tupleIsExact (.ref t)) R E s := fun A E R r => by
    unfold Builtin.Tuple.tupleIsExact
    exact wpAny_bind (wpAny_typeOf ht.typeIs (wpAny_pure r))
  refine wpAny_bind (hx _ _ _ ?_)
  rw [if_pos rfl]
  refine wpAny_bind (wpAny_rule ?_)
  first
    | exact wpAny_pure ⟨_, rfl, wpAny_pure h⟩
    | exact wpAny_bind (wpAny_pure (wpAny_pure ⟨_, rfl, wpAny_pure h⟩))
    | exact wpAny_bind (wpAny_pure ⟨_, rfl, wpAny_pure h⟩)
end
end HT
namespace L2
open PySem PySem.Spec PyProof.Rows
/-- t[lo:hi], the whole of it or not -/
def rSlTA (K : PySem.W.Frag) : V → Option Int → Option Int → Hp → VK → Prop := fun x lo hi H Q => ∃ a xs, x = .ref a ∧ SqT K H a xs ∧
  (cutV xs lo hi = xs → Q (.ref a) H) ∧ ∀ p, H p = none → Q (.ref p) (upd H p (.tup (cutV xs lo hi)))
theorem sl_tupA {X : Cx} : SlR X (rSlTA X.K) := by
  intro pins s σ H x v vl vu lo hi sl Q I rx hs pl pu h
  obtain ⟨a, xs, rfl, hx, h1, q⟩ := h
  by_cases hw : HT.sIx xs.length 0 lo = 0 ∧ HT.sIx xs.length xs.length hi = xs.length
  · cases rx
    obtain ⟨its, r, ht, hz⟩ := I.tuple hx
    have hlen : its.toArray.size = xs.length := by rw [List.size_toArray]; exact r.length.symm
    refine ⟨"tuple", _, PyProof.Rows.slot_tuple_getitem.lookup, ht.typeIs, ?_⟩
    refine HT.getItem_tuple_whole ht hs pl pu (by rw [hlen]; exact hw) ?_
    have e : cutV xs lo hi = xs := by
      unfold cutV
      rw [hw.1, hw.2, List.drop_zero, Nat.sub_zero, List.take_length]
    exact ⟨.ref a, H, I, rfl, h1 e⟩
  · exact sl_tup pins s σ H (.ref a) v vl vu lo hi sl Q I rx hs pl pu ⟨a, xs, rfl, hx, hw, q⟩
end L2

namespace RK
open PySem L2 LamX
def qLamP : Str := "photo_of.<locals>.<lambda>"
theorem no_partK {σ : St} {H : Hp} {Q : Option Int → Hp → Prop} (h : Q none H) : tNoPart σ H Q := h
theorem cut_to {l : List V} {k : Nat} : cutV l none (some (k : Nat)) = l.take k := by
  unfold cutV
  rw [HT.sIx_none, HT.sIx_nat, List.drop_zero, Nat.sub_zero]
  rcases Nat.le_total k l.length with h | h
  · rw [Nat.min_eq_left h]
  · rw [Nat.min_eq_right h, List.take_of_length_le (Nat.le_refl _), List.take_of_length_le h]
theorem cut_from {l : List V} {k : Nat} : cutV l (some (k : Nat)) none = l.drop k := by
  unfold cutV
  rw [HT.sIx_none, HT.sIx_nat]
  rcases Nat.le_total k l.length with h | h
  · rw [Nat.min_eq_left h, List.take_of_length_le (by rw [List.length_drop]; exact Nat.le_refl _)]
  · rw [Nat.min_eq_right h, List.drop_of_length_le h, List.drop_of_length_le (Nat.le_refl _), List.take_nil]
/-! ### photos and laps -/
def StandT (K : PySem.W.Frag) (CS : Addr) (zs : List Str) (v : V) (H : Hp) (E : XK) (next : Addr → List (Key × V) → Prop) : Prop :=
  ∃ k, Th K H v k ∧ (k.isDict = false → Bad "stand" CS v H E) ∧ (k.isDict = true → ∃ d kvs, v = .ref d ∧ H d = some (.dK kvs) ∧ (∀ kv ∈ kvs, ∃ kx, Th K H kv.2 kx) ∧ (standB zs kvs = false → Bad "stand" CS v H E) ∧ (standB zs kvs = true → next d kvs))
theorem StandT.sp {K : PySem.W.Frag} {CS n : Addr} {zs : List Str} {v : V} {H H1 : Hp} {Q : VK} {E : XK} {next : Addr → List (Key × V) → Prop} (h : StandT K CS zs v H E next) (s : Same H H1) (hn : H1 n = some (.lst (zs.map V.str))) (h0 : 0 < zs.length) (hl : zs.length ≤ 1000)
    (q : ∀ d kvs H', v = .ref d → H' d = some (.dK kvs) → standB zs kvs = true → next d kvs → Same H1 H' → Q .non H') : spNeedSt K CS [.ref n, v] H1 Q E := by
  obtain ⟨k, ht, bad, good⟩ := h
  refine ⟨n, zs, v, k, rfl, hn, h0, hl, ht.same s, fun hk => (bad hk).same s, fun hk => ?_⟩
  obtain ⟨d, kvs, rfl, hd, hth, b2, g2⟩ := good hk
  exact ⟨d, kvs, rfl, s _ _ hd, fun kv hm => let ⟨kx, e⟩ := hth kv hm; ⟨kx, e.same s⟩, fun hb => (b2 hb).same s, fun hb H' s' => q d kvs H' rfl (s' _ _ (s _ _ hd)) hb (g2 hb) s'⟩
def nOf (zs : List Str) : Int := (zs.length : Nat)
def lapK (zs : List Str) (kvs : List (Key × V)) : Str → Int := fun z => placeOf kvs z / nOf zs
def restV (zs : List Str) (kvs : List (Key × V)) : Str → Int := fun z => placeOf kvs z % nOf zs
def photoL (zs : List Str) (kvs : List (Key × V)) : List Str := zs.mergeSort fun x y => decide (restV zs kvs x ≤ restV zs kvs y)
def manyB (zs : List Str) (v : V) : Bool := match v with
  | .int i => decide (0 ≤ i) && decide (i < nOf zs)
  | _ => false
def spTurnedBy : Sp := fun vs H Q _ => ∃ (a : Addr) (os : List Str) (k : Kd) (i : Nat), vs = [.ref a, .int i] ∧ SeqAt2 H a (os.map V.str) k ∧ os.length ≤ 1000 ∧ ∀ l H', H l = none → H' l = some (.lst ((os.drop i ++ os.take i).map V.str)) → Same H H' → Q (.ref l) H'
def spLapsOf (K : PySem.W.Frag) (C CP CS : Addr) : Sp := fun vs H Q E => ∃ v u, vs = [v, u] ∧ PathT K C CP v H E fun zs => StandT K CS zs u H E fun d kvs => ∀ e H', H e = none → H' e = some (.dK (kvOf zs (lapK zs kvs))) → Same H H' → Q (.ref e) H'
def spPhotoOf (K : PySem.W.Frag) (C CP CS : Addr) (TT : List (Addr × Str)) : Sp := fun vs H Q E => ∃ v u, vs = [v, u] ∧ Tabs TT H ∧ PathT K C CP v H E fun zs => StandT K CS zs u H E fun d kvs => ∀ l H', (∀ b o, H b = some o → (∀ ps, o ≠ .tbl ps) → b ≠ l) → H' l = some (.lst ((photoL zs kvs).map V.str)) → ExtN H H' → Tabs TT H' → Q (.ref l) H'
def spIsPhotoP (K : PySem.W.Frag) (C CP : Addr) : Sp := fun vs H Q E => ∃ v u, vs = [v, u] ∧ PathT K C CP v H E fun zs => ∃ k, Th K H u k ∧ (k.isSeq = false → ∀ H', Same H H' → Q (.bl false) H') ∧ (k.isSeq = true → ∃ a xs, u = .ref a ∧ SeqAt2 H a xs k ∧ xs.length ≤ 1000 ∧ (∀ x ∈ xs, ∃ kx, Th K H x kx) ∧ ∀ H', Same H H' → Q (.bl (photoB zs xs)) H')
def spStOfLaps (K : PySem.W.Frag) (C CP CF CL : Addr) : Sp := fun vs H Q E => ∃ v u y, vs = [v, u, y] ∧ PathT K C CP v H E fun zs => PhotoT K CF zs u H E fun os => ∃ ky, Th K H y ky ∧ (ky.isDict = false → Bad "laps" CL y H E) ∧
  (ky.isDict = true → ∃ d kvs, y = .ref d ∧ H d = some (.dK kvs) ∧ (∀ kv ∈ kvs, ∃ kx, Th K H kv.2 kx) ∧ (dictB zs kvs = false → Bad "laps" CL y H E) ∧
    (dictB zs kvs = true → ((zs.map (placeOf kvs)).sum ≠ 0 → ∀ H', Same H H' → Q .non H') ∧ ((zs.map (placeOf kvs)).sum = 0 → ∀ e H', H e = none → H' e = some (.dK (kvOf zs fun z => placeOf kvs z * nOf zs + restK os z)) → Same H H' → Q (.ref e) H')))
def spPhotoTurned (K : PySem.W.Frag) (C CP CF CM : Addr) : Sp := fun vs H Q E => ∃ v u y, vs = [v, u, y] ∧ PathT K C CP v H E fun zs => PhotoT K CF zs u H E fun os => ∃ ky, Th K H y ky ∧ (manyB zs y = false → Bad "many" CM y H E) ∧
  (∀ i : Nat, y = .int i → i < zs.length → ∀ l H', H l = none → H' l = some (.lst ((os.drop i ++ os.take i).map V.str)) → Same H H' → Q (.ref l) H')
section
variable {K : PySem.W.Frag} {σ : St} {H : Hp} {Q : VK} {j : Nat} {a : Addr} {xs : List V} {k : Kd} {lo hi : Option Int} {tl th : TO}
/-- list(x[lo:hi]), x a list or a tuple -/
theorem slice_list (h : σ[j]? = some (some (.ref a))) (hsq : SeqAt2 H a xs k) (htl : ∀ G Q, Q lo G → tl σ G Q) (hth : ∀ G Q, Q hi G → th σ G Q) (q : ∀ l G, Same H G → G l = some (.lst (cutV xs lo hi)) → Q (.ref l) G) :
    tCB (fun xs H Q => ∃ p ys, xs = [.ref p] ∧ (SqL K H p ys ∨ SqT K H p ys) ∧ ∀ l, H l = none → Q (.ref l) (upd H l (.lst ys))) (tCons (tSl (fun x lo hi H Q => rSlL K x lo hi H Q ∨ rSlTA K x lo hi H Q) (tVar j) tl th) tNil) σ H Q := by
  refine ⟨_, h, htl _ _ (hth _ _ ?_)⟩
  rcases hsq with ⟨ea, _⟩ | ⟨ea, _⟩
  · refine .inl ⟨a, _, rfl, SqL.of ea, fun p1 hp1 => ?_⟩
    refine ⟨p1, _, rfl, .inl (SqL.of upd_same), fun p2 hp2 => ?_⟩
    exact q p2 _ ((same_upd hp1).trans (same_upd hp2)) upd_same
  · refine .inr ⟨a, _, rfl, SqT.of ea, fun hw => ?_, fun p1 hp1 => ?_⟩
    · refine ⟨a, _, rfl, .inr (SqT.of ea), fun p2 hp2 => ?_⟩
      refine q p2 _ (same_upd hp2) ?_
      rw [upd_same, hw]
    · refine ⟨p1, _, rfl, .inr (SqT.of upd_same), fun p2 hp2 => ?_⟩
      exact q p2 _ ((same_upd hp1).trans (same_upd hp2)) upd_same
theorem part_var {i : Int} (h : σ[j]? = some (some (.int i))) : ∀ G (Q : Option Int → Hp → Prop), Q (some i) G → tPart (tVar j) σ G Q := fun G Q q => ⟨_, h, i, rfl, q⟩
theorem part_none : ∀ G (Q : Option Int → Hp → Prop), Q none G → tNoPart σ G Q := fun G Q q => q
end
theorem st_retP {te : TE} {D : Ends} {σ : St} {H : Hp} (h : te σ H D.rt) : tRet te D σ H := h
theorem st_opP {r : R2} {ta tb : TE} {σ : St} {H : Hp} {Q : VK} (h : ta σ H fun x H1 => tb σ H1 fun y H2 => r x y H2 Q) : tOp r ta tb σ H Q := h
section
variable {P : Program} {w : World} {K : PySem.W.Frag} {mg : Str → Option Value} {base : Heap} {C CP CF CS CL CM fF fS fL fM fI c Pt : Addr} {TT : List (Addr × Str)}
theorem scTurnedBy : FnScope ["photo", "many"] ["photo", "many"] (defScope sTurnedBy) := ⟨rfl, rfl, rfl, by decide +kernel, rfl, by decide +kernel, by decide +kernel⟩
theorem ok_turnedBy {f  : Addr} {fd  : FuncData} (F : Fun K "turned_by" "turned_by" sTurnedBy f fd) (B : B0 K mg) :
    FnOk P w K mg base CX0 1 f fd ["photo", "many"] spTurnedBy := by
  refine F.ok scTurnedBy (fun vs H Q E h => ?_) (fun cdv A outer s H vs Q E hr h => ?_)
  · obtain ⟨a, os, k, i, rfl, _⟩ := h
    rfl
  · obtain ⟨a, os, k, i, rfl, hsq, hl, q⟩ := h
    have hu := hu_of hr
    refine ⟨_, pss_one (ps_ret (pe_op op_cat (pe_callTy call_list_of (by rfl) B.list (by decide +kernel) (pa_cons (pe_slice (SlR.or sl_list sl_tupA) (pv 0) (po_some (pv 1)) po_none) pa_nil)) (pe_callTy call_list_of (by rfl) B.list (by decide +kernel) (pa_cons (pe_slice (SlR.or sl_list sl_tupA) (pv 0) po_none (po_some (pv 1))) pa_nil)))), ?_⟩
    have ol : (os.map V.str).length = os.length := List.length_map _
    refine st_retP (st_opP ?_)
    refine slice_list (lo := some (i : Int)) (hi := none) rfl hsq ?_ ?_ fun p1 G1 s1 e1 => ?_
    · exact fun _ _ qq => ⟨_, rfl, _, rfl, qq⟩
    · exact fun _ _ qq => qq
    refine slice_list (lo := none) (hi := some (i : Int)) rfl (hsq.same s1) ?_ ?_ fun p2 G2 s2 e2 => ?_
    · exact fun _ _ qq => qq
    · exact fun _ _ qq => ⟨_, rfl, _, rfl, qq⟩
    rw [cut_from] at e1
    rw [cut_to] at e2
    refine ⟨p1, p2, _, _, rfl, rfl, s2 _ _ e1, e2, by rw [List.length_drop, List.length_take, ol]; exact Nat.le_trans (show os.length - i + min i os.length ≤ 2000 by omega) (by decide), fun q1 hq1 => ?_⟩
    refine q q1 _ ((s1.trans s2).free hq1) ?_ ((s1.trans s2).trans (same_upd hq1))
    rw [upd_same, List.map_append, List.map_drop, List.map_take]

theorem scLapsOf : FnScope ["path", "stand", "names", "name"] ["path", "stand"] (defScope sLapsOf) := ⟨rfl, rfl, rfl, by decide +kernel, rfl, by decide +kernel, by decide +kernel⟩
theorem ok_lapsOf {f fS fW : Addr} {fd fdS fdW : FuncData} (F : Fun K "laps_of" "laps_of" sLapsOf f fd) (B : B0 K mg)
    (GS : FnOk P w K mg base (L2.CX P w) 4 fS fdS ["names", "stand"] (spNeedSt K CS)) (bS : Binds K fdS ["names", "stand"] []) (gS : mg "need_stand" = some (.ref fS)) (kS9 : PySem.W.keepIn K (.ref fS) = true)
    (GW : FnOk P w K mg base (L2.CX P w) 2 fW fdW ["path"] (spWalkersOf K C CP)) (bW : Binds K fdW ["path"] []) (gW : mg "walkers_of" = some (.ref fW)) (kW9 : PySem.W.keepIn K (.ref fW) = true) :
    FnOk P w K mg base (L2.CX P w) 5 f fd ["path", "stand"] (spLapsOf K C CP CS) := by
  refine F.okX scLapsOf (fun vs H Q E h => ?_) (fun cdv A outer s H vs Q E hr h => ?_)
  · obtain ⟨v, u, rfl, _⟩ := h
    rfl
  · obtain ⟨v, u, rfl, h⟩ := h
    have hu := hu_of hr
    have hr2 : Room 2 _ := hr.mono (by decide)
    have hr4 : Room 4 _ := hr.mono (by decide)
    refine ⟨_, pss_cons (ps_set (i := 2) scLapsOf.nd rfl (Or.inr rfl) (pe_call GW hr2 (by rfl) gW kW9 bW .nil (passes_call (takes_of rfl rfl rfl rfl) fun _ _ _ _ h => h) (pa_cons (pv 0) pa_nil)))
      (pss_cons (ps_expr (pe_call GS hr4 (by rfl) gS kS9 bS .nil (passes_call (takes_of rfl rfl rfl rfl) fun _ _ _ _ h => h) (pa_cons (pv 2) (pa_cons (pv 1) pa_nil))))
      (pss_one (ps_ret (pe_dc (tk := (tVar 3)) (tv := (tOp (rI CDiv fun i j => .int (i / j)) (tDGet (tVar 1) (tVar 3)) (tCB (rLenS K) (tCons (tVar 2) tNil)))) (own := [("name", 3)]) (g := (gName 3)) (tt := tYes) rfl scLapsOf.nd (pi_list (pv 2)) (blkOk_by (N := ["path", "stand", "names", "name"]) (sc := defScope sLapsOf) (by decide +kernel)) (fun _ _ _ _ _ => (pg_name (i := 3) scLapsOf.nd rfl (Or.inl rfl))) (fun _ _ _ _ _ => pts_nil) (fun _ _ _ _ _ => by exact (pv 3)) (fun _ _ _ _ _ => by exact (pe_op op_fdiv (pe_dget hu (pv 1) (pv 3) (fun _ _ => rfl)) (pe_callB call_len_seq (by rfl) B.len PySem.boot_len (pa_cons (pv 2) pa_nil)))))))), ?_⟩
    rcases h with ⟨k, ht, bad⟩ | ⟨p, t, zs, rfl, hp, hnd, h0, hl, h⟩
    · exact ⟨_, rfl, v, rfl, .inl ⟨k, ht, bad⟩⟩
    refine ⟨_, rfl, .ref p, rfl, .inr ⟨p, t, zs, rfl, hp, fun n hn => ?_⟩⟩
    generalize hE : upd H n _ = H1
    have sH1 : Same H H1 := hE ▸ same_upd hn
    have en := congrFun hE.symm n
    rw [upd_same] at en
    clear hE
    have hll : (zs.map V.str).length = zs.length := List.length_map _
    refine ⟨_, rfl, _, rfl, st_nil (h.sp sH1 en h0 (by omega) fun d kvs H2 hu hd hst q s2 => ?_)⟩
    subst hu
    have hpl := dict_place (Bool.and_eq_true_iff.mp hst).1
    have en2 := s2 _ _ en
    refine ⟨_, rfl, n, rfl, ⟨_, SqL.of en2⟩, fun D hD => dcG_it (lapK zs kvs) en2 hnd hD (by omega) (fun _ => rfl) (fun z G Q qq => ⟨_, rfl, qq⟩) (fun z hz G Q s qq => ?_) fun G s hacc => q D G ((sH1.trans s2).free hD) hacc (sH1.trans (s2.trans s))⟩
    refine ⟨_, rfl, _, rfl, d, _, rfl, hpl z hz ▸ DGet.k (k := (Sum.inr z : Key)) (s _ _ hd), _, rfl, n, _, rfl, .inl (SqL.of (s _ _ en2)), ?_⟩
    rw [hll]
    exact ⟨_, _, rfl, rfl, ⟨by omega, by omega⟩, qq⟩

theorem scIsPhotoP : FnScope ["path", "thing"] ["path", "thing"] (defScope sIsPhotoP) := ⟨rfl, rfl, rfl, by decide +kernel, rfl, by decide +kernel, by decide +kernel⟩
theorem ok_isPhotoP {f fO fW : Addr} {fd fdO fdW : FuncData} (F : Fun K "is_photo" "is_photo" sIsPhotoP f fd) 
    (GO : FnOk P w K mg base CX0 3 fO fdO ["names", "thing"] (spIsPhoto K)) (bO : Binds K fdO ["names", "thing"] []) (gO : mg "is_photograph" = some (.ref fO)) (kO9 : PySem.W.keepIn K (.ref fO) = true)
    (GW : FnOk P w K mg base (L2.CX P w) 2 fW fdW ["path"] (spWalkersOf K C CP)) (bW : Binds K fdW ["path"] []) (gW : mg "walkers_of" = some (.ref fW)) (kW9 : PySem.W.keepIn K (.ref fW) = true) :
    FnOk P w K mg base (L2.CX P w) 5 f fd ["path", "thing"] (spIsPhotoP K C CP) := by
  refine F.okX scIsPhotoP (fun vs H Q E h => ?_) (fun cdv A outer s H vs Q E hr h => ?_)
  · obtain ⟨v, u, rfl, _⟩ := h
    rfl
  · obtain ⟨v, u, rfl, h⟩ := h
    have hu := hu_of hr
    have hr2 : Room 2 _ := hr.mono (by decide)
    have hr3 : Room 3 _ := hr.mono (by decide)
    refine ⟨_, pss_one (ps_ret (pe_call GO hr3 (by rfl) gO kO9 bO .nil pass0 (pa_cons (pe_call GW hr2 (by rfl) gW kW9 bW .nil (passes_call (takes_of rfl rfl rfl rfl) fun _ _ _ _ h => h) (pa_cons (pv 0) pa_nil)) (pa_cons (pv 1) pa_nil)))), ?_⟩
    rcases h with ⟨k, ht, bad⟩ | ⟨p, t, zs, rfl, hp, hnd, h0, hl, h⟩
    · exact ⟨_, rfl, v, rfl, .inl ⟨k, ht, bad⟩⟩
    refine ⟨_, rfl, .ref p, rfl, .inr ⟨p, t, zs, rfl, hp, fun n hn => ?_⟩⟩
    generalize hE : upd H n _ = H1
    have sH1 : Same H H1 := hE ▸ same_upd hn
    have en := congrFun hE.symm n
    rw [upd_same] at en
    clear hE
    obtain ⟨k, ht, kno, kyes⟩ := h
    refine ⟨_, rfl, n, zs, u, k, rfl, en, ht.same sH1, fun hk H2 s2 => kno hk H2 (sH1.trans s2), fun hk => ?_⟩
    obtain ⟨a, xs, rfl, hsq, hl2, hth, q⟩ := kyes hk
    exact ⟨a, xs, rfl, hsq.same sH1, hl2, fun x hx => let ⟨kx, e⟩ := hth x hx; ⟨kx, e.same sH1⟩, fun H2 s2 => q H2 (sH1.trans s2)⟩

theorem scStOfLaps : FnScope ["path", "photo", "laps", "names", "rests", "name"] ["path", "photo", "laps"] (defScope sStOfLaps) := ⟨rfl, rfl, rfl, by decide +kernel, rfl, by decide +kernel, by decide +kernel⟩
theorem ok_stOfLaps {f fR fD fN fW : Addr} {fd fdR fdD fdN fdW : FuncData} (F : Fun K "stand_of_laps" "stand_of_laps" sStOfLaps f fd) (B : B0 K mg) (zsum : mg "sum" = none) (EL : ErrAt P K mg "BadLaps" "laps" CL fL) (gI : mg "is_integer" = some (.ref fI))
    (GR : FnOk P w K mg base CX0 1 fR fdR ["photo"] spRestsIn) (bR : Binds K fdR ["photo"] []) (gR : mg "rests_in" = some (.ref fR)) (kR9 : PySem.W.keepIn K (.ref fR) = true)
    (GD : FnOk P w K mg base CX0 2 fD fdD ["keys", "thing", "is_right"] (spDictOf K fI)) (bD : Binds K fdD ["keys", "thing", "is_right"] []) (gD : mg "is_dict_of" = some (.ref fD)) (kD9 : PySem.W.keepIn K (.ref fD) = true)
    (GN : FnOk P w K mg base (L2.CX P w) 4 fN fdN ["names", "photo"] (spNeedPhoto K CF)) (bN : Binds K fdN ["names", "photo"] []) (gN : mg "need_photo" = some (.ref fN)) (kN9 : PySem.W.keepIn K (.ref fN) = true)
    (GW : FnOk P w K mg base (L2.CX P w) 2 fW fdW ["path"] (spWalkersOf K C CP)) (bW : Binds K fdW ["path"] []) (gW : mg "walkers_of" = some (.ref fW)) (kW9 : PySem.W.keepIn K (.ref fW) = true) :
    FnOk P w K mg base (L2.CX P w) 5 f fd ["path", "photo", "laps"] (spStOfLaps K C CP CF CL) := by
  refine F.okX scStOfLaps (fun vs H Q E h => ?_) (fun cdv A outer s H vs Q E hr h => ?_)
  · obtain ⟨v, u, y, rfl, _⟩ := h
    rfl
  · obtain ⟨v, u, y, rfl, h⟩ := h
    have hu := hu_of hr
    have hr1 : Room 1 _ := hr.mono (by decide)
    have hr2 : Room 2 _ := hr.mono (by decide)
    have hr4 : Room 4 _ := hr.mono (by decide)
    refine ⟨_, pss_cons (ps_set (i := 3) scStOfLaps.nd rfl (Or.inr rfl) (pe_call GW hr2 (by rfl) gW kW9 bW .nil (passes_call (takes_of rfl rfl rfl rfl) fun _ _ _ _ h => h) (pa_cons (pv 0) pa_nil)))
      (pss_cons (ps_expr (pe_call GN hr4 (by rfl) gN kN9 bN .nil (passes_call (takes_of rfl rfl rfl rfl) fun _ _ _ _ h => h) (pa_cons (pv 3) (pa_cons (pv 1) pa_nil))))
      (pss_cons (ps_if (pt_not (pt_val (pe_call GD hr2 (by rfl) gD kD9 bD .nil pass0 (pa_cons (pv 3) (pa_cons (pv 2) (pa_cons (pe_glob (v := .ref fI) (by rfl) gI rfl) pa_nil)))))) (pss_one (ps_raiseX rfl EL.x EL.g hr (takes_of rfl rfl rfl rfl) (by exact (pa_cons (pv 2) pa_nil)))) (pss_nil))
      (pss_cons (ps_if (pt_cmpR op_ne (pe_callB (cr_sum rfl) (by rfl) zsum (by decide +kernel) (pa_cons (pe_lc (te := (tDGet (tVar 2) (tVar 5))) (own := [("name", 5)]) (g := (gName 5)) (tt := tYes) rfl scStOfLaps.nd (pi_list (pv 3)) (blkOk_by (N := ["path", "photo", "laps", "names", "rests", "name"]) (sc := defScope sStOfLaps) (by decide +kernel))
          (fun _ _ _ _ _ => (pg_name (i := 5) scStOfLaps.nd rfl (Or.inl rfl))) (fun _ _ _ _ _ => pts_nil) (fun _ _ _ _ _ => by exact (pe_dget hu (pv 2) (pv 5) (fun _ _ => rfl)))) pa_nil)) pe_int (nomark _)) (pss_one (ps_ret pe_non)) (pss_nil))
      (pss_cons (ps_set (i := 4) scStOfLaps.nd rfl (Or.inr rfl) (pe_call GR hr1 (by rfl) gR kR9 bR .nil pass0 (pa_cons (pv 1) pa_nil)))
      (pss_one (ps_ret (pe_dc (tk := (tVar 5)) (tv := (tOp (rI0 fun i j => .int (i + j)) (tOp (rI CMul fun i j => .int (i * j)) (tDGet (tVar 2) (tVar 5)) (tCB (rLenS K) (tCons (tVar 3) tNil))) (tDGet (tVar 4) (tVar 5)))) (own := [("name", 5)]) (g := (gName 5)) (tt := tYes) rfl scStOfLaps.nd (pi_list (pv 3)) (blkOk_by (N := ["path", "photo", "laps", "names", "rests", "name"]) (sc := defScope sStOfLaps) (by decide +kernel)) (fun _ _ _ _ _ => (pg_name (i := 5) scStOfLaps.nd rfl (Or.inl rfl))) (fun _ _ _ _ _ => pts_nil) (fun _ _ _ _ _ => by exact (pv 5)) (fun _ _ _ _ _ => by exact (pe_op op_add (pe_op op_mul (pe_dget hu (pv 2) (pv 5) (fun _ _ => rfl)) (pe_callB call_len_seq (by rfl) B.len PySem.boot_len (pa_cons (pv 3) pa_nil))) (pe_dget hu (pv 4) (pv 5) (fun _ _ => rfl))))))))))), ?_⟩
    rcases h with ⟨k, ht, bad⟩ | ⟨p, t, zs, rfl, hp, hnd, h0, hl, h⟩
    · exact ⟨_, rfl, v, rfl, .inl ⟨k, ht, bad⟩⟩
    refine ⟨_, rfl, .ref p, rfl, .inr ⟨p, t, zs, rfl, hp, fun n hn => ?_⟩⟩
    generalize hE : upd H n _ = H1
    have sH1 : Same H H1 := hE ▸ same_upd hn
    have en := congrFun hE.symm n
    rw [upd_same] at en
    clear hE
    have hll : (zs.map V.str).length = zs.length := List.length_map _
    refine ⟨_, rfl, _, rfl, st_nil (h.sp sH1 en fun a os k H2 hu hsq hpm hx s2 => ?_)⟩
    subst hu
    have s02 := sH1.trans s2
    have en2 := s2 _ _ en
    obtain ⟨ky, hty, kno, kyes⟩ := hx
    refine ⟨_, rfl, _, rfl, n, zs, y, ky, rfl, en2, by omega, hty.same s02, fun hk H4 s4 => ⟨false, rfl, iteT ⟨_, rfl, _, rfl, fun dd hdd => kno hk dd _ (s02.trans (s4.trans (same_upd hdd))) upd_same⟩⟩, fun hk => ?_⟩
    obtain ⟨d, kvs, rfl, hd0, hth, bad, good⟩ := kyes hk
    have hd := s02 _ _ hd0
    refine ⟨d, kvs, rfl, hd, fun kv hm => let ⟨kx, e⟩ := hth kv hm; ⟨kx, e.same s02⟩, fun H4 s4 => ⟨dictB zs kvs, rfl, ?_⟩⟩
    cases hB : dictB zs kvs with
    | false => exact iteT ⟨_, rfl, _, rfl, fun dd hdd => bad hB dd _ (s02.trans (s4.trans (same_upd hdd))) upd_same⟩
    | true =>
    refine iteF ?_
    obtain ⟨q0, q1⟩ := good hB
    have hpl := dict_place hB
    have hd4 := s4 _ _ hd
    have en4 := s4 _ _ en2
    refine ⟨_, rfl, n, rfl, ⟨_, SqL.of en4⟩, fun D hD => lcF_it (fun _ => true) (fun z => V.int (placeOf kvs z)) en4 hD (by omega) (fun _ => rfl) (fun z hz G Q s qq => qq) (fun z hz _ G Q s qq => ⟨_, rfl, _, rfl, d, _, rfl, hpl z hz ▸ DGet.k (k := (Sum.inr z : Key)) (s _ _ hd4), qq⟩) fun G5 s5 hacc => ?_⟩
    rw [List.filter_eq_self.mpr fun _ _ => rfl] at hacc
    refine ⟨D, zs.map (placeOf kvs), rfl, SqL.of (by rw [hacc, List.map_map]; rfl), rfl, _, rfl, ?_⟩
    have s05 := s02.trans (s4.trans s5)
    refine ite2 (fun hh => ?_) (fun hh => ?_)
    · have hs : (zs.map (placeOf kvs)).sum ≠ 0 := fun z => by
        rw [z] at hh
        cases hh
      exact q0 hs G5 s05
    · have hs : (zs.map (placeOf kvs)).sum = 0 := by
        by_cases e : (zs.map (placeOf kvs)).sum = 0
        · exact e
        · exact absurd (show (!decide (V.int (zs.map (placeOf kvs)).sum = V.int 0)) = true by rw [decide_eq_false fun z => e (V.int.inj z)]; rfl) hh
      have hsq5 := hsq.same (s4.trans s5)
      have hd5 := s5 _ _ hd4
      have en5 := s5 _ _ en4
      refine ⟨_, rfl, a, os, k, rfl, hsq5, hpm.nodup_iff.mpr hnd, by have := hpm.length_eq; omega, fun r H8 hr0 hr1 s8 => ?_⟩
      refine st_name ?_
      refine ⟨_, rfl, n, rfl, ⟨_, SqL.of (s8 _ _ en5)⟩, fun D2 hD2 => dcG_it (fun z => placeOf kvs z * nOf zs + restK os z) (s8 _ _ en5) hnd hD2 (by omega) (fun _ => rfl) (fun z G Q qq => ⟨_, rfl, qq⟩) (fun z hz G Q s qq => ?_) fun G s hacc2 => q1 hs D2 G ((s05.trans s8).free hD2) hacc2 (s05.trans (s8.trans s))⟩
      refine ⟨_, rfl, _, rfl, d, _, rfl, hpl z hz ▸ DGet.k (k := (Sum.inr z : Key)) (s _ _ (s8 _ _ hd5)), _, rfl, n, _, rfl, .inl (SqL.of (s _ _ (s8 _ _ en5))), ?_⟩
      rw [hll]
      exact ⟨_, _, rfl, rfl, .inr ⟨by omega, by omega⟩, _, rfl, _, rfl, r, _, rfl, (val_kv (hpm.mem_iff.mpr hz) (g := restK os)) ▸ DGet.k (k := (Sum.inr z : Key)) (s _ _ hr1), _, _, rfl, rfl, qq⟩

theorem scPhotoTurned : FnScope ["path", "photo", "many", "names"] ["path", "photo", "many"] (defScope sPhotoTurned) := ⟨rfl, rfl, rfl, by decide +kernel, rfl, by decide +kernel, by decide +kernel⟩
theorem ok_photoTurned {f fT fU fN fW : Addr} {fd fdT fdU fdN fdW : FuncData} (F : Fun K "photo_turned" "photo_turned" sPhotoTurned f fd) (B : B0 K mg) (EM : ErrAt P K mg "BadMany" "many" CM fM)
    (GT : FnOk P w K mg base CX0 1 fT fdT ["photo", "many"] spTurnedBy) (bT : Binds K fdT ["photo", "many"] []) (gT : mg "turned_by" = some (.ref fT)) (kT9 : PySem.W.keepIn K (.ref fT) = true)
    (GU : FnOk P w K mg base CX0 2 fU fdU ["thing"] (spIsNumber K)) (bU : Binds K fdU ["thing"] []) (gU : mg "is_number" = some (.ref fU)) (kU9 : PySem.W.keepIn K (.ref fU) = true)
    (GN : FnOk P w K mg base (L2.CX P w) 4 fN fdN ["names", "photo"] (spNeedPhoto K CF)) (bN : Binds K fdN ["names", "photo"] []) (gN : mg "need_photo" = some (.ref fN)) (kN9 : PySem.W.keepIn K (.ref fN) = true)
    (GW : FnOk P w K mg base (L2.CX P w) 2 fW fdW ["path"] (spWalkersOf K C CP)) (bW : Binds K fdW ["path"] []) (gW : mg "walkers_of" = some (.ref fW)) (kW9 : PySem.W.keepIn K (.ref fW) = true) :
    FnOk P w K mg base (L2.CX P w) 5 f fd ["path", "photo", "many"] (spPhotoTurned K C CP CF CM) := by
  refine F.okX scPhotoTurned (fun vs H Q E h => ?_) (fun cdv A outer s H vs Q E hr h => ?_)
  · obtain ⟨v, u, y, rfl, _⟩ := h
    rfl
  · obtain ⟨v, u, y, rfl, h⟩ := h
    have hu := hu_of hr
    have hr1 : Room 1 _ := hr.mono (by decide)
    have hr2 : Room 2 _ := hr.mono (by decide)
    have hr4 : Room 4 _ := hr.mono (by decide)
    refine ⟨_, pss_cons (ps_set (i := 3) scPhotoTurned.nd rfl (Or.inl rfl) (pe_call GW hr2 (by rfl) gW kW9 bW .nil (passes_call (takes_of rfl rfl rfl rfl) fun _ _ _ _ h => h) (pa_cons (pv 0) pa_nil)))
      (pss_cons (ps_expr (pe_call GN hr4 (by rfl) gN kN9 bN .nil (passes_call (takes_of rfl rfl rfl rfl) fun _ _ _ _ h => h) (pa_cons (pv 3) (pa_cons (pv 1) pa_nil))))
      (pss_cons (ps_if (PW.pt (pw_or (pt_not (pt_val (pe_call GU hr2 (by rfl) gU kU9 bU .nil pass0 (pa_cons (pv 2) pa_nil)))) (pw_or1 (pt_cmpR op_ge (pv 2) (pe_callB call_len_seq (by rfl) B.len PySem.boot_len (pa_cons (pv 3) pa_nil)) (nomark _))))) (pss_one (ps_raiseX rfl EM.x EM.g hr (takes_of rfl rfl rfl rfl) (by exact (pa_cons (pv 2) pa_nil)))) (pss_nil))
      (pss_one (ps_ret (pe_call GT hr1 (by rfl) gT kT9 bT .nil pass0 (pa_cons (pv 1) (pa_cons (pv 2) pa_nil))))))), ?_⟩
    rcases h with ⟨k, ht, bad⟩ | ⟨p, t, zs, rfl, hp, hnd, h0, hl, h⟩
    · exact ⟨_, rfl, v, rfl, .inl ⟨k, ht, bad⟩⟩
    refine ⟨_, rfl, .ref p, rfl, .inr ⟨p, t, zs, rfl, hp, fun n hn => ?_⟩⟩
    generalize hE : upd H n _ = H1
    have sH1 : Same H H1 := hE ▸ same_upd hn
    have en := congrFun hE.symm n
    rw [upd_same] at en
    clear hE
    have hll : (zs.map V.str).length = zs.length := List.length_map _
    refine ⟨_, rfl, _, rfl, st_nil (h.sp sH1 en fun a os k H2 hu hsq hpm hx s2 => ?_)⟩
    subst hu
    have s02 := sH1.trans s2
    have en2 := s2 _ _ en
    obtain ⟨ky, hty, kno, kyes⟩ := hx
    refine ⟨_, rfl, y, ky, rfl, hty.same s02, fun H4 s4 => ⟨numB y, rfl, ?_⟩⟩
    cases hn2 : numB y with
    | false =>
      have hm : manyB zs y = false := by
        cases y <;> first | rfl | skip
        rename_i i
        show (decide (0 ≤ i) && decide (i < nOf zs)) = false
        rw [show decide (0 ≤ i) = false from hn2]
        rfl
      exact iteT (iteT ⟨_, rfl, _, rfl, fun dd hdd => kno hm dd _ (s02.trans (s4.trans (same_upd hdd))) upd_same⟩)
    | true =>
    obtain ⟨i, rfl, hi⟩ : ∃ i, y = .int i ∧ 0 ≤ i := by
      cases y <;> first | cases hn2 | skip
      exact ⟨_, rfl, of_decide_eq_true hn2⟩
    refine iteF ⟨_, rfl, _, rfl, n, _, rfl, .inl (SqL.of (s4 _ _ en2)), _, _, rfl, rfl, _, rfl, ?_⟩
    rw [hll]
    refine ite2 (fun hh => ?_) (fun hh => ?_)
    · have hm : manyB zs (.int i) = false := by
        have := of_decide_eq_true hh
        show (decide (0 ≤ i) && decide (i < (zs.length : Int))) = false
        rw [decide_eq_false (show ¬ i < (zs.length : Int) by omega), Bool.and_false]
      exact ⟨_, rfl, _, rfl, fun dd hdd => kno hm dd _ (s02.trans (s4.trans (same_upd hdd))) upd_same⟩
    · have hlt : i < (zs.length : Int) := by
        have := of_decide_eq_false (Bool.eq_false_iff.mpr hh)
        omega
      obtain ⟨m, rfl⟩ : ∃ m : Nat, i = (m : Int) := ⟨i.toNat, by omega⟩
      exact ⟨_, rfl, _, rfl, a, os, k, m, rfl, hsq.same s4, by have := hpm.length_eq; omega, fun l H5 hl5 hl6 s5 => kyes m rfl (by omega) l H5 ((s02.trans s4).free hl5) hl6 (s02.trans (s4.trans s5))⟩

theorem scPhotoOf : FnScope ["path", "stand", "names"] ["path", "stand"] (defScope sPhotoOf) := ⟨rfl, rfl, rfl, by decide +kernel, rfl, by decide +kernel, by decide +kernel⟩
theorem ok_photoOf {f fS fW : Addr} {fdS fdW : FuncData} {oc kVv doc pm ct : Value} {od an : Option Addr} {osl : Array (Option Value)}
    (lk : K.lookup f = some ⟨oc, od, .func (PySem.W.fnOf "photo_of" "photo_of" (defArgs sPhotoOf) (defBody sPhotoOf) (defScope sPhotoOf) .none kVv doc pm an (.ref c) ct), osl⟩) (hcd : PySem.W.codeIn K (.ref c) "photo_of" = true)
    (B : B0 K mg) (zsorted : mg "sorted" = none) (TB : TabB base mg c Pt) (hmT : (Pt, qLamP) ∈ TT) (huT : ∀ p ∈ TT, p.1 = Pt → p.2 = qLamP)
    (GS : FnOk P w K mg base (L2.CX P w) 4 fS fdS ["names", "stand"] (spNeedSt K CS)) (bS : Binds K fdS ["names", "stand"] []) (gS : mg "need_stand" = some (.ref fS)) (kS9 : PySem.W.keepIn K (.ref fS) = true)
    (GW : FnOk P w K mg base (L2.CX P w) 2 fW fdW ["path"] (spWalkersOf K C CP)) (bW : Binds K fdW ["path"] []) (gW : mg "walkers_of" = some (.ref fW)) (kW9 : PySem.W.keepIn K (.ref fW) = true) :
    FnOk P w K mg base (L2.CX P w) 5 f (PySem.W.fnOf "photo_of" "photo_of" (defArgs sPhotoOf) (defBody sPhotoOf) (defScope sPhotoOf) .none kVv doc pm an (.ref c) ct) ["path", "stand"] (spPhotoOf K C CP CS TT) := by
  refine fn_of lk hcd scPhotoOf (fun vs H Q E h => ?_) (fun A outer s H vs Q E hr h => ?_)
  · obtain ⟨v, u, rfl, _⟩ := h
    rfl
  · obtain ⟨v, u, rfl, hT, h⟩ := h
    have hu := hu_of hr
    have hr2 : Room 2 _ := hr.mono (by decide)
    have hr3 : Room 3 _ := hr.mono (by decide)
    have hr4 : Room 4 _ := hr.mono (by decide)
    refine ⟨_, pss_cons (ps_set (i := 2) scPhotoOf.nd rfl (Or.inr rfl) (pe_call GW hr2 (by rfl) gW kW9 bW .nil (passes_call (takes_of rfl rfl rfl rfl) fun _ _ _ _ h => h) (pa_cons (pv 0) pa_nil)))
      (pss_cons (ps_expr (pe_call GS hr4 (by rfl) gS kS9 bS .nil (passes_call (takes_of rfl rfl rfl rfl) fun _ _ _ _ h => h) (pa_cons (pv 2) (pa_cons (pv 1) pa_nil))))
      (pss_one (ps_ret (by exact (SortLam.pe_sortK (x := "name") (T := TT) (P := Pt) (k := 0) (N := ["name", "stand", "names"]) (fr := ["stand", "names"]) (js := [1, 2]) (tb := tOp (rI (fun _ j => 0 < j) fun i j => .int (i % j)) (tDGet (tVar 1) (tVar 0)) (tCB (rLenS K) (tCons (tVar 2) tNil)))
        (by rfl) zsorted (pv 2) TB rfl hmT huT hr3 (NdefX.nscope_by (by decide +kernel)) (by show NdefX.ndefB (defScope sPhotoOf) _ _ = true; decide +kernel) (by rfl) (by rfl) (fun _ _ _ _ _ us h => by
          match us, h with
          | [u], _ => rfl) (fun A outer s H F f hF hr2 => by
          obtain ⟨n1, n2, n3, n4, n5, n6, n7⟩ := F
          cases hF
          exact (pe_op op_mod (pe_dget (hu_of hr2) (pv 1) (pv 0) (fun _ _ => rfl)) (pe_callB call_len_seq (by rfl) B.len PySem.boot_len (pa_cons (pv 2) pa_nil))))))))), ?_⟩
    rcases h with ⟨k, ht, bad⟩ | ⟨p, t, zs, rfl, hp, hnd, h0, hl, h⟩
    · exact ⟨_, rfl, v, rfl, .inl ⟨k, ht, bad⟩⟩
    refine ⟨_, rfl, .ref p, rfl, .inr ⟨p, t, zs, rfl, hp, fun n hn => ?_⟩⟩
    generalize hE : upd H n _ = H1
    have sH1 : Same H H1 := hE ▸ same_upd hn
    have en := congrFun hE.symm n
    rw [upd_same] at en
    clear hE
    have hll : (zs.map V.str).length = zs.length := List.length_map _
    refine ⟨_, rfl, _, rfl, st_nil (h.sp sH1 en h0 (by omega) fun d kvs H2 hu hd hst q s2 => ?_)⟩
    subst hu
    have hpl := dict_place (Bool.and_eq_true_iff.mp hst).1
    have en2 := s2 _ _ en
    have s02 := sH1.trans s2
    refine ⟨_, rfl, hT.ext s02, fun H3 eN T3 => ⟨n, zs.map V.str, fun v => match v with
      | .str z => restV zs kvs z
      | _ => 0, rfl, SqL.of (eN _ _ en2 (fun _ z => nomatch z)), fun x hx H4 Q' s4 hQ => ?_, fun H4 D s4 hD => ?_⟩⟩
    · obtain ⟨z, hz, rfl⟩ := List.mem_map.mp hx
      have en4 := s4 _ _ (eN _ _ en2 (fun _ z => nomatch z))
      have hd4 := s4 _ _ (eN _ _ hd (fun _ z => nomatch z))
      refine ⟨_, rfl, _, rfl, d, _, rfl, hpl z hz ▸ DGet.k (k := (Sum.inr z : Key)) hd4, _, rfl, n, _, rfl, .inl (SqL.of en4), ?_⟩
      rw [hll]
      exact ⟨_, _, rfl, rfl, by show 0 < (zs.length : Int); omega, hQ H4 fun _ _ e => e⟩
    · have e4 : ExtN H H4 := ((ExtN.of s02).trans eN).trans (ExtN.of s4)
      refine q D _ (fun b o hb nt => ne_of_none (e4 b o hb nt) hD) ?_ (e4.trans (ExtN.of (same_upd hD))) ((T3.ext s4).ext (same_upd hD))
      rw [upd_same]
      unfold photoL
      rw [show (zs.mergeSort fun x y => decide (restV zs kvs x ≤ restV zs kvs y)).map V.str = _ from List.map_mergeSort (s := fun x y => decide ((match x with | V.str z => restV zs kvs z | _ => 0) ≤ (match y with | V.str z => restV zs kvs z | _ => 0))) fun a _ b _ => rfl]

end
end RK

namespace RK
open PySem L2
/-! ### bent nets -/
def rInt : List V → Hp → VK → Prop := fun xs H Q => (∃ i, xs = [.int i] ∧ Q (.int i) H) ∨ ∃ k, xs = [.bl k] ∧ Q (.int (if k then 1 else 0)) H
def is01 (z o : Str) : Int := if decide (V.str z = V.str o) then 1 else 0
theorem is01_le {z o : Str} : 0 ≤ is01 z o ∧ is01 z o ≤ 1 := by
  unfold is01
  split <;> omega
theorem mul01 {m c : Int} (h : 0 ≤ c ∧ c ≤ 1) : (m * c).natAbs ≤ m.natAbs := by
  rcases (show c = 0 ∨ c = 1 by omega) with e | e
  · rw [e]; simp
  · rw [e]; simp
theorem mul11 {m c : Int} (h : -1 ≤ c ∧ c ≤ 1) : (m * c).natAbs ≤ m.natAbs := by
  rcases (show c = 0 ∨ c = 1 ∨ c = -1 by omega) with e | e | e
  · rw [e]; simp
  · rw [e]; simp
  · rw [e]; simp
theorem kvOf_len {ks : List Str} {g : Str → Int} : (kvOf ks g).length = ks.length := List.length_map _
section
variable {K : PySem.W.Frag} {n D a : Addr} {zs : List Str} {i : Nat} {vs : List Nat} {tv : TE} {σ : St} {H1 : Hp} {Qd : Hp → Prop} {m B : Nat}
theorem dictD_it (hn : H1 n = some (.lst (zs.map V.str))) (han : a ≠ n) (hsp : SpAt H1 a m) (hD : H1 D = none) (hnd : zs.Nodup) (hl : zs.length ≤ 1000)
    (hw : ∀ x, wipe ((wipe σ vs).set i (some x)) vs = wipe σ vs) (hr : ∀ x H (Q : VK), Q x H → tVar i ((wipe σ vs).set i (some x)) H Q)
    (hv : ∀ (z : Str) j G (Q : VK), j < zs.length → SpAt G a (m + j) → (∀ r o, r.natAbs ≤ B → SpOk (m + j + 1) o → Q (.int r) (upd G a o)) → tv ((wipe σ vs).set i (some (.str z))) G Q)
    (hd : ∀ G ts g, (∀ z : Str, (g z : Int).natAbs ≤ B) → SpAt G a (m + zs.length) → But a H1 G → G D = some (.lst (ts.map V.ref)) → Paired (fun (t : Addr) (kv : Key × V) => G t = some (.tup [kV kv.1, kv.2])) ts (kvOf zs g) → Qd G) :
    ∃ W : Nat → Nat → Hp → Prop, (∃ m, W 0 m (upd H1 D (.lst []))) ∧ ∀ j m H, W j m H →
      ((Itl K n).stop j H ∧ Qd H) ∨ ((Itl K n).go j H ∧ ∃ Nx : Hp → Prop, (∀ H', Nx H' → ∃ m', m' < m ∧ W (j + 1) m' H') ∧ ∀ x H', (Itl K n).yld j H x H' → gName i x (wipe σ vs) H' fun σ2 H2 => wipe σ2 vs = wipe σ vs ∧ tYes σ2 H2 fun b H3 =>
        if b = true then tTup (tCons (tVar i) (tCons tv tNil)) σ2 H3 fun y H4 => ∃ acc, H4 D = some (.lst acc) ∧ acc.length < sizeLine ∧ Nx (upd H4 D (.lst (acc ++ [y]))) else Nx H3) := by
  have hDa : D ≠ a := fun z => hsp.ne (by rw [← z]; exact hD)
  refine lc_it (walk_list (K := K) (a := n) (xs := zs.map V.str)) (fun j G => But a H1 G ∧ SpAt G a (m + j) ∧ ∃ (ts : List Addr) (g : Str → Int), (∀ z, (g z).natAbs ≤ B) ∧ G D = some (.lst (ts.map V.ref)) ∧ Paired (fun (t : Addr) (kv : Key × V) => t ≠ D ∧ t ≠ a ∧ G t = some (.tup [kV kv.1, kv.2])) ts (kvV (zs.take j) fun z => .int (g z))) ⟨Same.but (same_upd hD), hsp.same (same_upd hD), [], fun _ => 0, fun _ => Nat.zero_le _, upd_same, .nil⟩ (fun j G _ p => SqL.of (p.1 _ _ (Ne.symm han) hn)) ?_ ?_
  · rintro j x G1 G2 hj ⟨sm, spG, ts, g, hg, hacc, hpr⟩ ⟨rfl, hx⟩
    obtain ⟨z, hz, hzm, rfl⟩ := name_at hx
    have hj' : j < zs.length := by rw [List.length_map] at hj; exact hj
    refine ⟨hw _, tyes ?_⟩
    refine st_tup (st_cons (hr _ _ _ (st_cons ?_)))
    refine hv z j _ _ hj' spG fun r o hrB ho => st_nil ?_
    have hacc1 : (upd G2 a o) D = some (.lst (ts.map V.ref)) := by rw [upd_ne hDa]; exact hacc
    have b1 : But a G2 (upd G2 a o) := But.upd
    have sp1 : SpAt (upd G2 a o) a (m + (j + 1)) := ⟨o, upd_same, ho⟩
    generalize upd G2 a o = G3 at hacc1 b1 sp1
    refine ⟨by show 2 ≤ sizeLine; decide, fun U hU => ?_⟩
    generalize hE : upd G3 U _ = G4
    have s4 : Same G3 G4 := hE ▸ same_upd hU
    have eU := congrFun hE.symm U
    rw [upd_same] at eU
    clear hE
    have hUD : U ≠ D := Ne.symm (ne_of_none hacc1 hU)
    have hUa : U ≠ a := fun z => sp1.ne (by rw [← z]; exact hU)
    have b24 := b1.trans (Same.but s4)
    have sp4 := sp1.same s4
    have htl : ts.length = (zs.take j).length := by rw [Paired.length hpr, kvV_len]
    have hzt : z ∉ zs.take j := nodup_take hnd hz
    refine ⟨_, s4 _ _ hacc1, ?_, fun b o hba hb => ?_, ?_, ts ++ [U], fun u => if u = z then r else g u, fun u => ?_, ?_, ?_⟩
    · rw [List.length_map, htl, List.length_take]
      exact Nat.lt_of_le_of_lt (Nat.le_trans (Nat.min_le_right _ _) hl) (by decide)
    · rw [upd_ne (ne_of_none hb hD)]
      exact b24 _ _ hba (sm _ _ hba hb)
    · obtain ⟨o4, ho4, k4⟩ := sp4
      exact ⟨o4, by rw [upd_ne (Ne.symm hDa)]; exact ho4, k4⟩
    · show (if u = z then r else g u).natAbs ≤ B
      split
      · exact hrB
      · exact hg u
    · rw [upd_same, List.map_append]
      rfl
    · rw [take_more hz, kvV_app]
      have e1 : kvV (zs.take j) (fun u => V.int (if u = z then r else g u)) = kvV (zs.take j) fun u => .int (g u) := List.map_congr_left fun u hu => by
        show ((Sum.inr u : Key), V.int (if u = z then r else g u)) = (Sum.inr u, V.int (g u))
        rw [if_neg (fun e : u = z => hzt (by rw [← e]; exact hu))]
      rw [e1]
      refine Paired.snoc (Paired.mono (fun t kv h => ⟨h.1, h.2.1, by rw [upd_ne h.1]; exact b24 _ _ h.2.1 h.2.2⟩) hpr) ⟨hUD, hUa, ?_⟩
      rw [upd_ne hUD, eU]
      show some (HO.tup [V.str z, V.int r]) = some (HO.tup [V.str z, V.int (if z = z then r else g z)])
      rw [if_pos rfl]
  · rintro G ⟨sm, spG, ts, g, hg, hacc, hpr⟩
    rw [List.length_map, List.take_length] at hpr
    rw [List.length_map] at spG
    exact hd G ts g hg spG sm hacc (Paired.mono (fun _ _ h => h.2.2) hpr)
end
/-- such dicts, new ones -/
def Bents (zs : List Str) (a : Addr) (H H' : Hp) (ds : List Addr) : Prop := ∀ e ∈ ds, e ≠ a ∧ H e = none ∧ ∃ g : Str → Int, H' e = some (.dK (kvOf zs g)) ∧ ∀ z ∈ zs, (g z).natAbs < 2 ^ 101
def spBent : Sp := fun vs H Q _ => ∃ (a n d : Addr) (zs : List Str) (g : Str → Int) (m : Nat), vs = [.ref a, .ref n, .ref d] ∧ a ≠ n ∧ a ≠ d ∧ SpAt H a m ∧ m < 1000000000 ∧ H n = some (.lst (zs.map V.str)) ∧ H d = some (.dK (kvOf zs g)) ∧ zs.Nodup ∧ 0 < zs.length ∧ zs.length ≤ 20 ∧ (∀ z ∈ zs, (g z).natAbs < 2 ^ 100 + 1000) ∧
  ∀ l ds H', H' l = some (.lst (ds.map V.ref)) → l ≠ a → ds.length = 4 → Bents zs a H H' ds → SpAt H' a (m + 100) → But a H H' → Q (.ref l) H'
section
variable {P : Program} {w : World} {K : PySem.W.Frag} {mg : Str → Option Value} {base : Heap}
end
end RK

namespace RK
open PySem L2
/-! ### things that are no stands -/
theorem SameD.up {H : Hp} : ∀ {n : Nat} {x y : V}, SameD H n x y → ∀ k, SameD H (n + k) x y
  | _, _, _, .non, _ => .non
  | _, _, _, .int i, _ => .int i
  | _, _, _, .bl b, _ => .bl b
  | _, _, _, .str h, _ => .str h
  | _, _, _, @SameD.lst _ n a b xs ys ha hb hl h1 h, k => by
    rw [Nat.add_right_comm]
    exact .lst ha hb hl h1 fun i x y e1 e2 => SameD.up (h i x y e1 e2) k
  | _, _, _, @SameD.tup _ n a b xs ys ha hb hl h1 h, k => by
    rw [Nat.add_right_comm]
    exact .tup ha hb hl h1 fun i x y e1 e2 => SameD.up (h i x y e1 e2) k
  | _, _, _, @SameD.dict _ n a b ks ls ha hb hl h1 hk h, k => by
    rw [Nat.add_right_comm]
    exact .dict ha hb hl h1 hk fun i p q e1 e2 => SameD.up (h i p q e1 e2) k
theorem SameD.le {H : Hp} {m n : Nat} {x y : V} (h : SameD H m x y) (e : m ≤ n) : SameD H n x y := by
  obtain ⟨k, rfl⟩ := Nat.le.dest e
  exact h.up k
/-- something that is of some kind, is like itself, and where it is a dict, P of it -/
def BadV (K : PySem.W.Frag) (Pd : List (Key × V) → Prop) (H : Hp) (v : V) : Prop := ∃ k, Th K H v k ∧ SameD H 6 v v ∧ (k.isDict = true → ∃ dd kvs, v = .ref dd ∧ H dd = some (.dK kvs) ∧ (∀ kv ∈ kvs, ∃ kx, Th K H kv.2 kx) ∧ Pd kvs)
theorem BadV.mono {K : PySem.W.Frag} {Pd : List (Key × V) → Prop} {H H' : Hp} {v : V} (h : BadV K Pd H v) (s : Same H H') : BadV K Pd H' v := by
  obtain ⟨k, h1, h2, h3⟩ := h
  refine ⟨k, h1.same s, h2.mono s, fun hk => ?_⟩
  obtain ⟨dd, kvs, e1, e2, e3, e4⟩ := h3 hk
  exact ⟨dd, kvs, e1, s _ _ e2, fun kv hm => let ⟨kx, e⟩ := e3 kv hm; ⟨kx, e.same s⟩, e4⟩
theorem BadV.non {K : PySem.W.Frag} {Pd : List (Key × V) → Prop} {H : Hp} : BadV K Pd H .non := ⟨_, .non, .non, fun z => nomatch z⟩
theorem BadV.int {K : PySem.W.Frag} {Pd : List (Key × V) → Prop} {H : Hp} {i : Int} : BadV K Pd H (.int i) := ⟨_, .int i, .int i, fun z => nomatch z⟩
theorem BadV.bl {K : PySem.W.Frag} {Pd : List (Key × V) → Prop} {H : Hp} {b : Bool} : BadV K Pd H (.bl b) := ⟨_, .bl b, .bl b, fun z => nomatch z⟩
theorem BadV.str {K : PySem.W.Frag} {Pd : List (Key × V) → Prop} {H : Hp} {z : Str} (h : z.length ≤ 1000) : BadV K Pd H (.str z) := ⟨_, .str h, .str h, fun z => nomatch z⟩
/-- the kinds of values in such dicts -/
inductive ValQ (H : Hp) : V → Prop where
  | non : ValQ H .non
  | int (i : Int) : ValQ H (.int i)
  | bl (b : Bool) : ValQ H (.bl b)
  | str {z : Str} (h : z.length ≤ 1000) : ValQ H (.str z)
  | lst {a : Addr} {i : Int} (e : H a = some (.lst [.int i])) : ValQ H (.ref a)
  | dic {a : Addr} (e : H a = some (.dK [])) : ValQ H (.ref a)
theorem ValQ.mono {H H' : Hp} {v : V} (h : ValQ H v) (s : Same H H') : ValQ H' v := by
  cases h with
  | non => exact .non
  | int i => exact .int i
  | bl b => exact .bl b
  | str h => exact .str h
  | lst e => exact .lst (s _ _ e)
  | dic e => exact .dic (s _ _ e)
theorem ValQ.th {K : PySem.W.Frag} {H : Hp} {v : V} (h : ValQ H v) : ∃ k, Th K H v k := by
  cases h with
  | non => exact ⟨_, .non⟩
  | int i => exact ⟨_, .int i⟩
  | bl b => exact ⟨_, .bl b⟩
  | str h => exact ⟨_, .str h⟩
  | lst e => exact ⟨_, .lst e⟩
  | dic e => exact ⟨_, .dict e⟩
theorem ValQ.same {H : Hp} {v : V} (h : ValQ H v) : SameD H 3 v v := by
  cases h with
  | non => exact .non
  | int i => exact .int i
  | bl b => exact .bl b
  | str h => exact .str h
  | lst e =>
    refine SameD.lst (n := 2) e e rfl (by show 1 ≤ 1000; decide) fun j x y e1 e2 => ?_
    match j, e1, e2 with
    | 0, e1, e2 => cases e1; cases e2; exact .int _
  | dic e => exact SameD.dict (n := 0) e e rfl (by decide) (fun i p q e1 => by simp at e1) fun i p q e1 => by simp at e1
theorem BadV.lst {K : PySem.W.Frag} {Pd : List (Key × V) → Prop} {H : Hp} {a : Addr} (e : H a = some (.lst [])) : BadV K Pd H (.ref a) := ⟨_, .lst e, SameD.lst (n := 5) e e rfl (by decide) (fun i x y e1 => by simp at e1), fun z => nomatch z⟩
theorem BadV.lst1 {K : PySem.W.Frag} {Pd : List (Key × V) → Prop} {H : Hp} {a : Addr} {i : Int} (e : H a = some (.lst [.int i])) : BadV K Pd H (.ref a) := ⟨_, .lst e, (ValQ.same (.lst e)).up 3, fun z => nomatch z⟩
theorem BadV.dct {K : PySem.W.Frag} {Pd : List (Key × V) → Prop} {H : Hp} {a : Addr} {kvs : List (Key × V)} (e : H a = some (.dK kvs)) (hl : kvs.length ≤ 1000) (hk : ∀ kv ∈ kvs, keyOk kv.1 ∧ ValQ H kv.2) (hp : Pd kvs) : BadV K Pd H (.ref a) := by
  refine ⟨_, .dict e, SameD.dict (n := 3) e e rfl hl (fun i p q e1 e2 => ?_) fun i p q e1 e2 => ?_, fun _ => ⟨a, kvs, rfl, e, fun kv hm => (hk kv hm).2.th, hp⟩⟩
  · rw [e1] at e2; cases e2
    exact ⟨rfl, (hk p (List.mem_of_getElem? e1)).1⟩
  · rw [e1] at e2; cases e2
    exact (hk p (List.mem_of_getElem? e1)).2.same
/-- a list of pairs of names and numbers -/
theorem BadV.pairs {K : PySem.W.Frag} {Pd : List (Key × V) → Prop} {H : Hp} {a : Addr} {ts : List Addr} {kvs : List (Key × V)} (e : H a = some (.lst (ts.map V.ref))) (hp : Paired (fun (t : Addr) (kv : Key × V) => H t = some (.tup [kV kv.1, kv.2])) ts kvs) (hl : kvs.length ≤ 1000) (hk : ∀ kv ∈ kvs, (∃ z : Str, kv.1 = Sum.inr z ∧ z.length ≤ 1000) ∧ ∃ i, kv.2 = .int i) : BadV K Pd H (.ref a) := by
  refine ⟨_, .lst e, SameD.lst (n := 5) e e rfl (by rw [List.length_map, Paired.length hp]; exact hl) fun i x y e1 e2 => ?_, fun z => nomatch z⟩
  rw [e1] at e2; cases e2
  obtain ⟨t, ht, rfl⟩ := get_map e1
  obtain ⟨kv, hkv, ht2⟩ := paired_get hp ht
  obtain ⟨⟨z, e3, h3⟩, j, e4⟩ := hk kv (List.mem_of_getElem? hkv)
  rw [e3, e4] at ht2
  refine SameD.tup (n := 4) ht2 ht2 rfl (by show 2 ≤ 1000; decide) fun i x y q1 q2 => ?_
  match i, q1, q2 with
  | 0, rfl, rfl => exact .str h3
  | 1, rfl, rfl => exact .int j
theorem no_len {zs : List Str} {kvs : List (Key × V)} (h : kvs.length ≠ zs.length) : dictB zs kvs = false := by
  unfold dictB
  rw [decide_eq_false h]
  rfl
theorem no_stand {zs : List Str} {kvs : List (Key × V)} (h : dictB zs kvs = false) : standB zs kvs = false := by
  unfold standB
  rw [h]
  rfl
theorem no_int {zs : List Str} {kvs : List (Key × V)} {z : Str} {v : V} (hz : z ∈ zs) (hv : valV kvs (Sum.inr z : Key) = some v) (hi : intB v = false) : dictB zs kvs = false := by
  cases h : dictB zs kvs with
  | false => rfl
  | true =>
    unfold dictB at h
    have q := List.all_eq_true.mp (Bool.and_eq_true_iff.mp h).2 z hz
    rw [hv] at q
    exact absurd (hi.symm.trans q) Bool.false_ne_true
theorem places_kv {zs : List Str} {g : Str → Int} : placesOf zs (kvOf zs g) = zs.map g := List.map_congr_left fun z hz => place_kv hz
theorem no_sum {zs : List Str} {g : Str → Int} (h : (zs.map g).sum ≠ (zs.length : Int) * ((zs.length : Int) - 1) / 2) : standB zs (kvOf zs g) = false := by
  unfold standB
  rw [places_kv, decide_eq_false h, Bool.false_and, Bool.and_false]
theorem no_rests {zs : List Str} {g : Str → Int} {x y : Str} (hx : x ∈ zs) (hy : y ∈ zs) (ne : x ≠ y) (h : g x % (zs.length : Int) = g y % (zs.length : Int)) : standB zs (kvOf zs g) = false := by
  cases q : standB zs (kvOf zs g) with
  | false => rfl
  | true => exact absurd (rest_inj q hx hy (by rw [place_kv hx, place_kv hy]; exact h)) ne
theorem sum_put {zs : List Str} {g : Str → Int} {z : Str} {c : Int} (nd : zs.Nodup) (hz : z ∈ zs) : (zs.map fun u => if u = z then c else g u).sum = (zs.map g).sum + (c - g z) := by
  have e : (zs.map fun u => if u = z then c else g u) = zs.map fun u => g u + if u = z then c - g z else 0 := List.map_congr_left fun u _ => by
    split
    · rename_i h; rw [h]; omega
    · omega
  rw [e, sum_add, sum_one nd, if_pos hz]
end RK

namespace RK
open PySem L2
abbrev NoSt (zs : List Str) : List (Key × V) → Prop := fun kvs => standB zs kvs = false
theorem bad_more {K : PySem.W.Frag} {Pd : List (Key × V) → Prop} {G G' : Hp} {F : Addr} {os : List V} {v : V} (h : ∀ u ∈ os, BadV K Pd (no G F) u) (b : But F G G') (hv : BadV K Pd (no G' F) v) :
    ∀ u ∈ os ++ [v], BadV K Pd (no (upd G' F (.lst (os ++ [v]))) F) u := fun u hu => by
  have e : Same (no G' F) (no (upd G' F (.lst (os ++ [v]))) F) := no_but But.upd
  rcases List.mem_append.mp hu with m | m
  · exact ((h u m).mono (no_but b)).mono e
  · rw [List.mem_singleton.mp m]; exact hv.mono e
theorem no_at {G : Hp} {F b : Addr} {o : HO} (h : G b = some o) (hb : b ≠ F) : (no G F) b = some o := by rw [no_ne hb]; exact h
theorem ValQ.no {G : Hp} {F : Addr} {v : V} (h : ValQ G v) (hF : ∃ xs : List V, G F = some (.lst xs) ∧ xs ≠ [] ∧ ∀ i, xs ≠ [V.int i]) : ValQ (no G F) v := by
  obtain ⟨xs, hF, h1, h2⟩ := hF
  cases h with
  | non => exact .non
  | int i => exact .int i
  | bl b => exact .bl b
  | str h => exact .str h
  | lst e => exact .lst (no_at e fun z => by rw [z, hF] at e; cases e; exact h2 _ rfl)
  | dic e => exact .dic (no_at e fun z => by rw [z, hF] at e; cases e)
theorem kv_ok {zs : List Str} {f : Str → V} {H : Hp} (hz : ∀ z ∈ zs, z.length ≤ 1000) (hf : ∀ z ∈ zs, ValQ H (f z)) : ∀ kv ∈ kvV zs f, keyOk kv.1 ∧ ValQ H kv.2 := fun kv hm => by
  unfold kvV at hm
  obtain ⟨z, h, rfl⟩ := List.mem_map.mp hm
  exact ⟨hz z h, hf z h⟩
def spQBad (K : PySem.W.Frag) : Sp := fun vs H Q _ => ∃ (a n d : Addr) (zs : List Str) (kvs : List (Key × V)) (m : Nat), vs = [.ref a, .ref n, .ref d] ∧ a ≠ n ∧ a ≠ d ∧ SpAt H a m ∧ m < 1000000000 ∧ H n = some (.lst (zs.map V.str)) ∧ H d = some (.dK kvs) ∧ Sta zs zs kvs ∧ zs.Nodup ∧ (∀ z ∈ zs, z ∈ pool) ∧ 2 ≤ zs.length ∧ zs.length ≤ 20 ∧
  ∀ l os H', H' l = some (.lst os) → l ≠ a → os.length ≤ 40 → (∀ v ∈ os, BadV K (NoSt zs) H' v) → SpAt H' a (m + 1) → But a H H' → Q (.ref l) H'
section
variable {P : Program} {w : World} {K : PySem.W.Frag} {mg : Str → Option Value} {base : Heap}
end
end RK

namespace RK
open PySem L2
/-! ### things that are no paths, no stands -/
def spOddSt (K : PySem.W.Frag) : Sp := fun vs H Q _ => ∃ (n d : Addr) (zs : List Str) (kvs : List (Key × V)), vs = [.ref n, .ref d] ∧ H n = some (.lst (zs.map V.str)) ∧ H d = some (.dK kvs) ∧ Sta zs zs kvs ∧ zs.Nodup ∧ (∀ z ∈ zs, z ∈ pool) ∧ 2 ≤ zs.length ∧ zs.length ≤ 20 ∧
  ∀ l os H', H' l = some (.lst os) → H l = none → os.length ≤ 40 → (∀ v ∈ os, BadV K (NoSt zs) H' v) → Same H H' → Q (.ref l) H'
def spOddPa (K : PySem.W.Frag) : Sp := fun vs H Q _ => ∃ (n : Addr) (zs : List Str), vs = [.ref n] ∧ H n = some (.lst (zs.map V.str)) ∧ (∀ z ∈ zs, z.length ≤ 1000) ∧ 2 ≤ zs.length ∧ zs.length ≤ 1000 ∧
  ∀ l os H', H' l = some (.lst os) → H l = none → os.length ≤ 40 → (∀ v ∈ os, (∃ k, Th K H' v k) ∧ SameD H' 6 v v) → Same H H' → Q (.ref l) H'
section
variable {P : Program} {w : World} {K : PySem.W.Frag} {mg : Str → Option Value} {base : Heap}
theorem scOddPa : FnScope ["names"] ["names"] (defScope sOddPa) := ⟨rfl, rfl, rfl, by decide +kernel, rfl, by decide +kernel, by decide +kernel⟩
theorem ok_oddPa {f : Addr} {fd : FuncData} (F : Fun K "_law_w_odd_paths" "_law_w_odd_paths" sOddPa f fd) (B : B0 K mg) : FnOk P w K mg base CX0 1 f fd ["names"] (spOddPa K) := by
  refine F.ok scOddPa (fun vs H Q E h => ?_) (fun cdv A outer s H vs Q E hr h => ?_)
  · obtain ⟨n, zs, rfl, _⟩ := h
    rfl
  · obtain ⟨n, zs, rfl, hn, hzl, h2, hl, q⟩ := h
    refine ⟨_, pss_one (ps_ret (pe_lst (pa_cons pe_non (pa_cons pe_int (pa_cons (pe_ix ix_list (pv 0) pe_int (fun _ _ => rfl)) (pa_cons pe_bl (pa_cons (pe_callTy call_list_of (by rfl) B.list (by decide +kernel) (pa_cons (pv 0) pa_nil)) (pa_cons (pe_callTy call_tuple_of (by rfl) B.tuple (by decide +kernel) (pa_cons (pv 0) pa_nil)) (pa_cons pe_dnewK pa_nil))))))))), ?_⟩
    obtain ⟨z0, hz0⟩ : ∃ z0, zs[0]? = some z0 := ⟨zs[0], List.getElem?_eq_getElem (by omega)⟩
    have hz0m : (zs.map V.str)[0]? = some (.str z0) := by rw [List.getElem?_map, hz0]; rfl
    have hlen : (zs.map V.str).length = zs.length := List.length_map _
    refine ⟨_, rfl, n, _, 0, _, rfl, rfl, SqL.of hn, atI_nat (j := 0) hz0m, ?_⟩
    refine ⟨_, rfl, n, _, rfl, .inl (SqL.of hn), fun L hL => ?_⟩
    generalize hE : upd H L _ = H1
    have s1 : Same H H1 := hE ▸ same_upd hL
    have e1 := congrFun hE.symm L
    rw [upd_same] at e1
    clear hE
    refine ⟨_, rfl, n, _, rfl, .inl ⟨SqL.of (s1 _ _ hn), fun T5 hT5 => ?_⟩⟩
    generalize hE : upd H1 T5 _ = H2
    have s2 : Same H1 H2 := hE ▸ same_upd hT5
    have e2 := congrFun hE.symm T5
    rw [upd_same] at e2
    clear hE
    refine fun D hD => ?_
    generalize hE : upd H2 D _ = H3
    have s3 : Same H2 H3 := hE ▸ same_upd hD
    have e3 := congrFun hE.symm D
    rw [upd_same] at e3
    clear hE
    refine st_nil ⟨by show 7 ≤ sizeLine; decide, fun F hF => ?_⟩
    have s4 := same_upd (o := .lst [V.non, .int 5, .str z0, .bl true, .ref L, .ref T5, .ref D]) hF
    have s13 : Same H H3 := s1.trans (s2.trans s3)
    refine q F _ _ upd_same (s13.free hF) (by show 7 ≤ 40; decide) (fun v hv => ?_) (s13.trans s4)
    have alike9 : ∀ (i : Nat) (x y : V), (zs.map V.str)[i]? = some x → (zs.map V.str)[i]? = some y → ∀ {G : Hp}, SameD G 5 x y := fun i x y ex ey G => by
      rw [ex] at ey; cases ey
      obtain ⟨z, hz, hzm, rfl⟩ := name_at ex
      exact .str (hzl z hzm)
    simp only [List.mem_cons, List.not_mem_nil, or_false] at hv
    rcases hv with rfl | rfl | rfl | rfl | rfl | rfl | rfl
    · exact ⟨⟨_, .non⟩, .non⟩
    · exact ⟨⟨_, .int _⟩, .int _⟩
    · exact ⟨⟨_, .str (hzl _ (List.mem_of_getElem? hz0))⟩, .str (hzl _ (List.mem_of_getElem? hz0))⟩
    · exact ⟨⟨_, .bl _⟩, .bl _⟩
    · have e := s4 _ _ (s3 _ _ (s2 _ _ e1))
      exact ⟨⟨_, .lst e⟩, SameD.lst (n := 5) e e rfl (by rw [hlen]; exact hl) fun i x y ex ey => alike9 i x y ex ey⟩
    · have e := s4 _ _ (s3 _ _ e2)
      exact ⟨⟨_, .tup e⟩, SameD.tup (n := 5) e e rfl (by rw [hlen]; exact hl) fun i x y ex ey => alike9 i x y ex ey⟩
    · have e := s4 _ _ e3
      exact ⟨(ValQ.dic e).th, (ValQ.dic e).same.up 3⟩
end
end RK

namespace RK
open PySem L2
/-! ### things that are no stands -/
theorem no_keyV {zs : List Str} {kvs : List (Key × V)} {z : Str} (hz : z ∈ zs) (hv : valV kvs (Sum.inr z : Key) = none) : dictB zs kvs = false := by
  cases h : dictB zs kvs with
  | false => rfl
  | true =>
    unfold dictB at h
    have q := List.all_eq_true.mp (Bool.and_eq_true_iff.mp h).2 z hz
    rw [hv] at q
    exact absurd q Bool.false_ne_true
theorem kvV_none {f : Str → V} {z : Str} : ∀ {ks : List Str}, z ∉ ks → valV (kvV ks f) (Sum.inr z : Key) = none
  | [], _ => rfl
  | y :: r, h => by
    unfold kvV
    rw [List.map_cons, valV_neg (fun t => h (by rw [Sum.inr.inj t]; exact List.mem_cons_self))]
    exact kvV_none fun q => h (List.mem_cons_of_mem _ q)
theorem two_ends {zs : List Str} (nd : zs.Nodup) (h : 2 ≤ zs.length) : ∃ nm la ys, zs[0]? = some nm ∧ zs = ys ++ [la] ∧ nm ∈ zs ∧ la ∈ zs ∧ nm ≠ la := by
  match zs, nd, h with
  | x :: y :: r, nd, _ =>
    have h0 : (y :: r) ≠ [] := fun e => nomatch e
    have hm := List.getLast_mem h0
    refine ⟨x, (y :: r).getLast h0, x :: (y :: r).dropLast, rfl, ?_, List.mem_cons_self, List.mem_cons_of_mem _ hm, fun e => (List.nodup_cons.mp nd).1 (e ▸ hm)⟩
    rw [List.cons_append, List.dropLast_concat_getLast]
section
variable {K : PySem.W.Frag} {n D : Addr} {zs : List Str} {i : Nat} {vs : List Nat} {tk tv : TE} {σ : St} {H1 : Hp} {Qd : Hp → Prop} {f : Str → V} {kf : Str → Str}
theorem dictM_it (hn : H1 n = some (.lst (zs.map V.str))) (hD : H1 D = none) (hl : zs.length ≤ 1000)
    (hw : ∀ x, wipe ((wipe σ vs).set i (some x)) vs = wipe σ vs)
    (hk : ∀ z ∈ zs, ∀ G (Q : VK), Same H1 G → Q (.str (kf z)) G → tk ((wipe σ vs).set i (some (.str z))) G Q)
    (hv : ∀ z ∈ zs, ∀ G (Q : VK), Same H1 G → (∀ G', Same G G' → Q (f (kf z)) G') → tv ((wipe σ vs).set i (some (.str z))) G Q)
    (hd : ∀ G ts, Same H1 G → G D = some (.lst (ts.map V.ref)) → Paired (fun (t : Addr) (kv : Key × V) => G t = some (.tup [kV kv.1, kv.2])) ts (kvV (zs.map kf) f) → Qd G) :
    ∃ W : Nat → Nat → Hp → Prop, (∃ m, W 0 m (upd H1 D (.lst []))) ∧ ∀ j m H, W j m H →
      ((Itl K n).stop j H ∧ Qd H) ∨ ((Itl K n).go j H ∧ ∃ Nx : Hp → Prop, (∀ H', Nx H' → ∃ m', m' < m ∧ W (j + 1) m' H') ∧ ∀ x H', (Itl K n).yld j H x H' → gName i x (wipe σ vs) H' fun σ2 H2 => wipe σ2 vs = wipe σ vs ∧ tYes σ2 H2 fun b H3 =>
        if b = true then tTup (tCons tk (tCons tv tNil)) σ2 H3 fun y H4 => ∃ acc, H4 D = some (.lst acc) ∧ acc.length < sizeLine ∧ Nx (upd H4 D (.lst (acc ++ [y]))) else Nx H3) := by
  refine lc_it (walk_list (K := K) (a := n) (xs := zs.map V.str)) (fun j G => Same H1 G ∧ ∃ ts : List Addr, G D = some (.lst (ts.map V.ref)) ∧ Paired (fun (t : Addr) (kv : Key × V) => t ≠ D ∧ G t = some (.tup [kV kv.1, kv.2])) ts (kvV ((zs.map kf).take j) f)) ⟨same_upd hD, [], upd_same, .nil⟩ (fun j G _ p => SqL.of (p.1 _ _ hn)) ?_ ?_
  · rintro j x G1 G2 hj ⟨sm, ts, hacc, hpr⟩ ⟨rfl, hx⟩
    obtain ⟨z, hz, hzm, rfl⟩ := name_at hx
    refine ⟨hw _, tyes ?_⟩
    refine st_tup (st_cons (hk z hzm _ _ sm (st_cons ?_)))
    refine hv z hzm _ _ sm fun G3 s3 => st_nil ?_
    refine ⟨by show 2 ≤ sizeLine; decide, fun U hU => ?_⟩
    generalize hE : upd G3 U _ = G4
    have s4 : Same G3 G4 := hE ▸ same_upd hU
    have eU := congrFun hE.symm U
    rw [upd_same] at eU
    clear hE
    have s24 := s3.trans s4
    have hUD : U ≠ D := Ne.symm (ne_of_none (s3 _ _ hacc) hU)
    have htl : ts.length = ((zs.map kf).take j).length := by rw [Paired.length hpr, kvV_len]
    have hz2 : (zs.map kf)[j]? = some (kf z) := by rw [List.getElem?_map, hz]; rfl
    refine ⟨_, s24 _ _ hacc, ?_, fun b o hb => ?_, ts ++ [U], ?_, ?_⟩
    · rw [List.length_map, htl, List.length_take, List.length_map]
      exact Nat.lt_of_le_of_lt (Nat.le_trans (Nat.min_le_right _ _) hl) (by decide)
    · rw [upd_ne (ne_of_none hb hD)]
      exact s24 _ _ (sm _ _ hb)
    · rw [upd_same, List.map_append]
      rfl
    · rw [take_more hz2]
      exact pairs_snoc hpr (fun b o hb e => by rw [upd_ne hb]; exact s24 _ _ e) hUD (by rw [upd_ne hUD]; exact eU)
  · rintro G ⟨sm, ts, hacc, hpr⟩
    have e : (zs.map kf).take (zs.map V.str).length = zs.map kf := List.take_of_length_le (by rw [List.length_map, List.length_map]; exact Nat.le_refl _)
    rw [e] at hpr
    exact hd G ts sm hacc (Paired.mono (fun _ _ h => h.2) hpr)
end
section
variable {P : Program} {w : World} {K : PySem.W.Frag} {mg : Str → Option Value} {base : Heap}
theorem scOddSt : FnScope ["names", "stand", "first", "last", "found", "odd", "name", "shifted"] ["names", "stand"] (defScope sOddSt) := ⟨rfl, rfl, rfl, by decide +kernel, rfl, by decide +kernel, by decide +kernel⟩
theorem ok_oddSt {f : Addr} {fd : FuncData} (F : Fun K "_law_w_odd_stands" "_law_w_odd_stands" sOddSt f fd) (B : B0 K mg) : FnOk P w K mg base CX0 1 f fd ["names", "stand"] (spOddSt K) := by
  refine F.ok scOddSt (fun vs H Q E h => ?_) (fun cdv A outer s H vs Q E hr h => ?_)
  · obtain ⟨n, d, zs, kvs, rfl, _⟩ := h
    rfl
  · obtain ⟨n, d, zs, kvs, rfl, hn, hd, hst, hnd, hpool, h2, h20, q⟩ := h
    have hu := hu_of hr
    have hll : (zs.map V.str).length = zs.length := List.length_map _
    refine ⟨_, pss_cons (ps_asg (pe_tup (pa_cons (pe_ix ix_list (pv 0) pe_int (fun _ _ => rfl)) (pa_cons (pe_ix ix_list (pv 0) (pe_un un_neg pe_int) (fun _ _ => rfl)) pa_nil))) (pg_tup rfl (pgs_cons (pg_name (i := 2) scOddSt.nd rfl (Or.inr rfl)) (pgs_cons (pg_name (i := 3) scOddSt.nd rfl (Or.inl rfl)) pgs_nil))))
      (pss_cons (ps_set (i := 4) scOddSt.nd rfl (Or.inl rfl) (pe_lst (pa_cons pe_non (pa_cons pe_int (pa_cons pe_str (pa_cons (pe_lst pa_nil) (pa_cons pe_dnewK (pa_cons pe_bl (pa_cons (LiI.pe_listItems rfl (pv 1) (by rfl) B.list (by decide +kernel)) (pa_cons (pe_callTy (call_dictP rfl) (by rfl) B.dict (by decide +kernel) (pa_cons (pe_slice sl_list (LiI.pe_listItems rfl (pv 1) (by rfl) B.list (by decide +kernel)) (po_some pe_int) po_none) pa_nil)) pa_nil))))))))))
      (pss_cons (ps_expr (pe_bm PySem.F.plainAttrs_list PySem.F.slot_list_append PySem.F.type_list_append mt_append (pv 4) (pa_cons (pe_callTy (call_dictP rfl) (by rfl) B.dict (by decide +kernel) (pa_cons (pe_op op_cat (LiI.pe_listItems rfl (pv 1) (by rfl) B.list (by decide +kernel)) (pe_lst (pa_cons (pe_tup (pa_cons pe_str (pa_cons pe_int pa_nil))) pa_nil))) pa_nil)) pa_nil)))
      (pss_cons (ps_for PassesOwn.never rfl (pi_tup (pe_tup (pa_cons pe_non (pa_cons pe_bl (pa_cons pe_str (pa_cons (pe_lst (pa_cons pe_int pa_nil)) (pa_cons (pe_op op_add (pe_dget hu (pv 1) (pv 2) (fun _ _ => rfl)) pe_int) (pa_cons (pe_dget hu (pv 1) (pv 3) (fun _ _ => rfl)) pa_nil)))))))) (pg_name (i := 5) scOddSt.nd rfl (Or.inr rfl))
        (pss_one (ps_expr (pe_bm PySem.F.plainAttrs_list PySem.F.slot_list_append PySem.F.type_list_append mt_append (pv 4) (pa_cons (pe_callTy (call_dictP rfl) (by rfl) B.dict (by decide +kernel) (pa_cons (pe_lc (te := tTup (tCons (tVar 6) (tCons (tIf (tTest (tOp rEq (tVar 6) (tVar 2))) (tVar 5) (tDGet (tVar 1) (tVar 6))) tNil))) (own := [("name", 6)]) (g := gName 6) (tt := tYes) rfl scOddSt.nd (pi_list (pv 0)) (blkOk_by (N := ["names", "stand", "first", "last", "found", "odd", "name", "shifted"]) (sc := defScope sOddSt) (by decide +kernel))
          (fun _ _ _ _ _ => pg_name (i := 6) scOddSt.nd rfl (Or.inl rfl)) (fun _ _ _ _ _ => pts_nil) (fun _ _ _ _ _ => by exact (pe_tup (pa_cons (pv 6) (pa_cons (pe_ifExp (pt_cmpR op_eq (pv 6) (pv 2) (nomark _)) (pv 5) (pe_dget hu (pv 1) (pv 6) (fun _ _ => rfl))) pa_nil))))) pa_nil)) pa_nil)))))
      (pss_cons (ps_set (i := 7) scOddSt.nd rfl (Or.inl rfl) (pe_callTy (call_dictP rfl) (by rfl) B.dict (by decide +kernel) (pa_cons (pe_lc (te := tTup (tCons (tVar 6) (tCons (tOp (rI0 fun i j => .int (i + j)) (tDGet (tVar 1) (tVar 6)) (tCB (rLenS K) (tCons (tVar 0) tNil))) tNil))) (own := [("name", 6)]) (g := gName 6) (tt := tYes) rfl scOddSt.nd (pi_list (pv 0)) (blkOk_by (N := ["names", "stand", "first", "last", "found", "odd", "name", "shifted"]) (sc := defScope sOddSt) (by decide +kernel))
          (fun _ _ _ _ _ => pg_name (i := 6) scOddSt.nd rfl (Or.inl rfl)) (fun _ _ _ _ _ => pts_nil) (fun _ _ _ _ _ => by exact (pe_tup (pa_cons (pv 6) (pa_cons (pe_op op_add (pe_dget hu (pv 1) (pv 6) (fun _ _ => rfl)) (pe_callB call_lenS (by rfl) B.len PySem.boot_len (pa_cons (pv 0) pa_nil))) pa_nil))))) pa_nil)))
      (pss_one (ps_ret (pe_op op_cat (pv 4) (pe_lst (pa_cons (pv 7) (pa_cons (pe_callTy (call_dictP rfl) (by rfl) B.dict (by decide +kernel) (pa_cons (pe_lc (te := tTup (tCons (tIf (tTest (tOp rEq (tVar 6) (tVar 2))) (L2.tC (.str "no1")) (tVar 6)) (tCons (tDGet (tVar 1) (tVar 6)) tNil))) (own := [("name", 6)]) (g := gName 6) (tt := tYes) rfl scOddSt.nd (pi_list (pv 0)) (blkOk_by (N := ["names", "stand", "first", "last", "found", "odd", "name", "shifted"]) (sc := defScope sOddSt) (by decide +kernel))
          (fun _ _ _ _ _ => pg_name (i := 6) scOddSt.nd rfl (Or.inl rfl)) (fun _ _ _ _ _ => pts_nil) (fun _ _ _ _ _ => by exact (pe_tup (pa_cons (pe_ifExp (pt_cmpR op_eq (pv 6) (pv 2) (nomark _)) pe_str (pv 6)) (pa_cons (pe_dget hu (pv 1) (pv 6) (fun _ _ => rfl)) pa_nil))))) pa_nil)) pa_nil)))))))))), ?_⟩
    obtain ⟨nm, la, ys, hz0, hzs, hnm, hlam, hne⟩ := two_ends hnd h2
    have hzl : ∀ z ∈ zs, z.length ≤ 1000 := fun z hz => pool_len z (hpool z hz)
    have hl : zs.length ≤ 1000 := by omega
    have hz0m : (zs.map V.str)[0]? = some (.str nm) := by rw [List.getElem?_map, hz0]; rfl
    have hlast : atI (zs.map V.str) (-1) = some (.str la) := by rw [hzs, List.map_append]; exact atI_last _ _
    have hkl : kvs.length = zs.length := hst.len
    have hkn : (kvs.map (·.1)).Nodup := hst.keys hnd
    have hkv : ∀ kv ∈ kvs, (∃ z : Str, kv.1 = Sum.inr z ∧ z.length ≤ 1000 ∧ z ∈ zs) ∧ ∃ i, kv.2 = .int i := fun kv hm => by
      rw [hst.eq] at hm
      obtain ⟨z, hz, rfl⟩ := List.mem_map.mp hm
      exact ⟨⟨z, rfl, hzl z hz, hz⟩, _, rfl⟩
    refine ⟨_, rfl, n, _, 0, _, rfl, rfl, SqL.of hn, atI_nat (j := 0) hz0m, ?_⟩
    refine ⟨_, rfl, _, rfl, n, _, -1, _, rfl, rfl, SqL.of hn, hlast, ?_⟩
    refine ⟨by show 2 ≤ sizeLine; decide, fun T hT => ?_⟩
    generalize hE : upd H T _ = H2
    have s2 : Same H H2 := hE ▸ same_upd hT
    have eT := congrFun hE.symm T
    rw [upd_same] at eT
    clear hE
    refine ⟨T, _, rfl, SqT.of eT, rfl, _, _, rfl, _, _, rfl, rfl, ?_⟩
    have hd2 := s2 _ _ hd
    have hn2 := s2 _ _ hn
    -- found
    refine ⟨by show 0 ≤ sizeLine; decide, fun p1 hp1' => ?_⟩
    generalize hE : upd H2 p1 _ = H3
    have s3 : Same H2 H3 := hE ▸ same_upd hp1'
    have e3 := congrFun hE.symm p1
    rw [upd_same] at e3
    clear hE
    refine fun p2 hp2 => ?_
    generalize hE : upd H3 p2 _ = H4
    have s4 : Same H3 H4 := hE ▸ same_upd hp2
    have e4 := congrFun hE.symm p2
    rw [upd_same] at e4
    clear hE
    have hd4 := s4 _ _ (s3 _ _ hd2)
    refine ⟨_, rfl, d, kvs, rfl, hd4, fun H5 p3 t3 (s5 : Same H4 H5) hp3 hts3 hpt3 e5 pr5 => ?_⟩
    have hd5 := s5 _ _ hd4
    refine ⟨_, rfl, d, kvs, rfl, hd5, fun H6 p4 t4 (s6 : Same H5 H6) hp4 hts4 hpt4 e6 pr6 => ?_⟩
    have hd6 := s6 _ _ hd5
    have ec : cutV (t4.map V.ref) (some 1) none = (t4.drop 1).map V.ref := by
      have h := cut_drop (xs := t4.map V.ref) (k := 1) (by rw [List.length_map, Paired.length pr6, hkl]; omega)
      rw [List.map_drop]
      exact h
    refine ⟨_, rfl, p4, _, rfl, SqL.of e6, fun S hS => ?_⟩
    rw [ec]
    generalize hE : upd H6 S _ = H7
    have s7 : Same H6 H7 := hE ▸ same_upd hS
    have eS := congrFun hE.symm S
    rw [upd_same] at eS
    clear hE
    have pr7 : Paired (fun (t : Addr) (kv : Key × V) => H7 t = some (.tup [kV kv.1, kv.2])) (t4.drop 1) (kvs.drop 1) := by
      have h := Paired.mono (fun (t : Addr) (kv : Key × V) (e : H6 t = some (.tup [kV kv.1, kv.2])) => (s7 _ _ e : H7 t = some (.tup [kV kv.1, kv.2]))) pr6
      cases h with
      | nil => exact .nil
      | cons r t => exact t
    refine ⟨S, t4.drop 1, kvs.drop 1, rfl, SqL.of eS, Paired.mono (fun _ _ e => SqT.of e) pr7, fun p5 hp5 => ?_⟩
    rw [merge_self (by rw [List.map_drop]; exact (List.drop_sublist 1 _).nodup hkn)]
    generalize hE : upd H7 p5 _ = H8
    have s8 : Same H7 H8 := hE ▸ same_upd hp5
    have e8 := congrFun hE.symm p5
    rw [upd_same] at e8
    clear hE
    have hd8 := s8 _ _ (s7 _ _ hd6)
    refine ⟨by show 8 ≤ sizeLine; decide, fun F hF => ?_⟩
    have bad8 : ∀ v ∈ [V.non, .int 5, .str "ab", .ref p1, .ref p2, .bl true, .ref p3, .ref p5], BadV K (NoSt zs) H8 v := fun v hv => by
      simp only [List.mem_cons, List.not_mem_nil, or_false] at hv
      rcases hv with rfl | rfl | rfl | rfl | rfl | rfl | rfl | rfl
      · exact .non
      · exact .int
      · exact .str (by decide)
      · exact .lst (s8 _ _ (s7 _ _ (s6 _ _ (s5 _ _ (s4 _ _ e3)))))
      · exact .dct (s8 _ _ (s7 _ _ (s6 _ _ (s5 _ _ e4)))) (by decide) (fun _ z => nomatch z) (no_stand (no_len (by show 0 ≠ zs.length; omega)))
      · exact .bl
      · exact .pairs (s8 _ _ (s7 _ _ (s6 _ _ e5))) (Paired.mono (fun _ _ e => s8 _ _ (s7 _ _ (s6 _ _ e))) pr5) (by omega) fun kv hm => let ⟨⟨z, h1, h2, _⟩, h3⟩ := hkv kv hm; ⟨⟨z, h1, h2⟩, h3⟩
      · refine .dct e8 (by rw [List.length_drop]; omega) (fun kv hm => ?_) (no_stand (no_len (by rw [List.length_drop]; omega)))
        obtain ⟨⟨z, h1, h2, _⟩, i, h3⟩ := hkv kv (List.mem_of_mem_drop hm)
        exact ⟨by rw [h1]; exact h2, by rw [h3]; exact .int i⟩
    have nF : ∀ {b : Addr} {o : HO}, H8 b = some o → b ≠ F := fun e => ne_of_none e hF
    generalize hE : upd H8 F _ = H9
    have s9 : Same H8 H9 := hE ▸ same_upd hF
    have eF := congrFun hE.symm F
    rw [upd_same] at eF
    clear hE
    have s9n : Same H8 (no H9 F) := fun b o e => no_at (s9 _ _ e) (nF e)
    have hd9 := s9 _ _ hd8
    have hdF := nF hd8
    have hn8 := s8 _ _ (s7 _ _ (s6 _ _ (s5 _ _ (s4 _ _ (s3 _ _ hn2)))))
    have hnF := nF hn8
    have hn9 := s9 _ _ hn8
    have s28 : Same H2 H8 := s3.trans (s4.trans (s5.trans (s6.trans (s7.trans s8))))
    have s08 : Same H H8 := s2.trans s28
    have hF0 : H F = none := s08.free hF
    -- found.append(dict(list(places.items()) + [("no1", many)]))
    refine ⟨_, rfl, .inl ⟨rfl, _, SqL.of eF⟩, _, rfl, d, kvs, rfl, hd9, fun H10 p6 t6 (s10 : Same H9 H10) hp6 hts6 hpt6 e10 pr10 => ?_⟩
    refine ⟨by show 2 ≤ sizeLine; decide, fun U hU => ?_⟩
    generalize hE : upd H10 U _ = H11
    have s11 : Same H10 H11 := hE ▸ same_upd hU
    have eU := congrFun hE.symm U
    rw [upd_same] at eU
    clear hE
    refine ⟨by show 1 ≤ sizeLine; decide, fun W hW => ?_⟩
    generalize hE : upd H11 W _ = H12
    have s12 : Same H11 H12 := hE ▸ same_upd hW
    have eW := congrFun hE.symm W
    rw [upd_same] at eW
    clear hE
    refine ⟨p6, W, _, _, rfl, rfl, s12 _ _ (s11 _ _ e10), eW, by rw [List.length_map, Paired.length pr10, hkl]; exact Nat.le_trans (Nat.add_le_add_right h20 1) (by decide), fun R hR => ?_⟩
    generalize hE : upd H12 R _ = H13
    have s13 : Same H12 H13 := hE ▸ same_upd hR
    have eR := congrFun hE.symm R
    rw [upd_same] at eR
    clear hE
    have hnob : ("no1" : Str) ∉ zs := fun h => absurd (hpool _ h) (by decide +kernel)
    have s1013 : Same H10 H13 := s11.trans (s12.trans s13)
    refine ⟨R, t6 ++ [U], kvs ++ [((Sum.inr "no1" : Key), V.int 0)], rfl, SqL.of (by rw [eR, List.map_append]; rfl), Paired.mono (fun _ _ e => SqT.of e) (paired_app (Paired.mono (fun (t : Addr) (kv : Key × V) (e : H10 t = some (.tup [kV kv.1, kv.2])) => (s1013 _ _ e : H13 t = some (.tup [kV kv.1, kv.2]))) pr10) (.cons (s13 _ _ (s12 _ _ eU)) .nil)), fun p7 hp7 => ?_⟩
    rw [merge_self (by
      rw [List.map_append]
      refine List.nodup_append.mpr ⟨hkn, by simp, fun x hx y hy e => ?_⟩
      have ey : y = (Sum.inr "no1" : Key) := by simpa using hy
      obtain ⟨kv, hm, e1⟩ := List.mem_map.mp hx
      obtain ⟨⟨z, h1, h2, h3⟩, _⟩ := hkv kv hm
      have : (Sum.inr z : Key) = (Sum.inr "no1" : Key) := by rw [← h1, e1, e, ey]
      exact hnob (by rw [← Sum.inr.inj this]; exact h3))]
    generalize hE : upd H13 p7 _ = H14
    have s14 : Same H13 H14 := hE ▸ same_upd hp7
    have e14 := congrFun hE.symm p7
    rw [upd_same] at e14
    clear hE
    have s914 : Same H9 H14 := s10.trans (s1013.trans s14)
    have hp7F : p7 ≠ F := fun z => by
      have := (s10.trans s1013) _ _ eF
      rw [← z, hp7] at this; cases this
    have hp79 : H9 p7 = none := (s10.trans s1013).free hp7
    refine ⟨F, _, _, rfl, rfl, s914 _ _ eF, by show 8 < sizeLine; decide, ?_⟩
    have bad9 := bad_more (G := H9) (G' := H14) (F := F) (os := [V.non, .int 5, .str "ab", .ref p1, .ref p2, .bl true, .ref p3, .ref p5]) (v := .ref p7) (fun v hv => (bad8 v hv).mono s9n) (Same.but s914)
      (.dct (no_at e14 hp7F) (by rw [List.length_append, hkl]; show zs.length + 1 ≤ 1000; omega) (fun kv hm => by
        rcases List.mem_append.mp hm with hm | hm
        · obtain ⟨⟨z, h1, h2, _⟩, i, h3⟩ := hkv kv hm
          exact ⟨by rw [h1]; exact h2, by rw [h3]; exact .int i⟩
        · rw [List.mem_singleton.mp hm]
          exact ⟨by show ("no1" : Str).length ≤ 1000; decide, .int _⟩) (no_stand (no_len (by rw [List.length_append, hkl]; show zs.length + 1 ≠ zs.length; omega))))
    have bF9 : But F H9 (upd H14 F (.lst ([V.non, .int 5, .str "ab", .ref p1, .ref p2, .bl true, .ref p3, .ref p5] ++ [.ref p7]))) := (Same.but s914).trans But.upd
    have eF15 : (upd H14 F (.lst ([V.non, .int 5, .str "ab", .ref p1, .ref p2, .bl true, .ref p3, .ref p5] ++ [.ref p7]))) F = some (.lst ([V.non, .int 5, .str "ab", .ref p1, .ref p2, .bl true, .ref p3, .ref p5] ++ [.ref p7])) := upd_same
    generalize upd H14 F (.lst ([V.non, .int 5, .str "ab", .ref p1, .ref p2, .bl true, .ref p3, .ref p5] ++ [.ref p7])) = H15 at bad9 bF9 eF15
    have ol : ([V.non, .int 5, .str "ab", .ref p1, .ref p2, .bl true, .ref p3, .ref p5] ++ [V.ref p7]).length = 9 := rfl
    generalize [V.non, .int 5, .str "ab", .ref p1, .ref p2, .bl true, .ref p3, .ref p5] ++ [V.ref p7] = os0 at bad9 bF9 eF15 ol
    have hd15 := bF9 _ _ hdF hd9
    have hn15 := bF9 _ _ hnF hn9
    have hval : ∀ {z : Str}, z ∈ zs → ∀ {G : Hp}, G d = some (.dK kvs) → DGet G d (.str z) (some (.int (placeOf kvs z))) := fun {z} hz {G} e => hst.val hz ▸ DGet.k (k := (Sum.inr z : Key)) e
    -- odd ones in the place of the first walker
    refine ⟨by show 1 ≤ sizeLine; decide, fun q1 hq1 => ?_⟩
    generalize hE : upd H15 q1 _ = H16
    have s16 : Same H15 H16 := hE ▸ same_upd hq1
    have e16 := congrFun hE.symm q1
    rw [upd_same] at e16
    clear hE
    have hd16 := s16 _ _ hd15
    refine ⟨_, rfl, _, rfl, d, _, rfl, hval hnm hd16, _, _, rfl, rfl, ?_⟩
    refine ⟨_, rfl, _, rfl, d, _, rfl, hval hlam hd16, ?_⟩
    refine ⟨by show 6 ≤ sizeLine; decide, fun T7 hT7 => ?_⟩
    have eF16 := s16 _ _ eF15
    have q1F : q1 ≠ F := Ne.symm (ne_of_none eF15 hq1)
    have T7F : T7 ≠ F := Ne.symm (ne_of_none eF16 hT7)
    generalize hE : upd H16 T7 _ = H18
    have s18 : Same H16 H18 := hE ▸ same_upd hT7
    have e18 := congrFun hE.symm T7
    rw [upd_same] at e18
    clear hE
    have s1518 : Same H15 H18 := s16.trans s18
    have oddOk : ∀ v ∈ [V.non, .bl true, .str "0", .ref q1, .int (placeOf kvs nm + 1), .int (placeOf kvs la)], ValQ (no H18 F) v ∧ standB zs (kvV zs fun z => if z = nm then v else .int (placeOf kvs z)) = false := by
      have bad : ∀ v : V, intB v = false → standB zs (kvV zs fun z => if z = nm then v else .int (placeOf kvs z)) = false := fun v hv => no_stand (no_int hnm (kvV_val hnm) (by rw [if_pos rfl]; exact hv))
      have put : ∀ c : Int, (kvV zs fun z => if z = nm then V.int c else .int (placeOf kvs z)) = kvOf zs fun z => if z = nm then c else placeOf kvs z := fun c => List.map_congr_left fun z _ => by
          by_cases h : z = nm
          · show ((Sum.inr z : Key), if z = nm then V.int c else .int (placeOf kvs z)) = (Sum.inr z, V.int (if z = nm then c else placeOf kvs z))
            rw [if_pos h, if_pos h]
          · show ((Sum.inr z : Key), if z = nm then V.int c else .int (placeOf kvs z)) = (Sum.inr z, V.int (if z = nm then c else placeOf kvs z))
            rw [if_neg h, if_neg h]
      intro v hv
      simp only [List.mem_cons, List.not_mem_nil, or_false] at hv
      rcases hv with rfl | rfl | rfl | rfl | rfl | rfl
      · exact ⟨.non, bad _ rfl⟩
      · exact ⟨.bl true, bad _ rfl⟩
      · exact ⟨.str (by decide), bad _ rfl⟩
      · exact ⟨.lst (no_at (s18 _ _ e16) q1F), bad _ rfl⟩
      · refine ⟨.int _, ?_⟩
        rw [put]
        refine no_sum ?_
        rw [sum_put hnd hnm, hst.sum]
        omega
      · refine ⟨.int _, ?_⟩
        rw [put]
        refine no_rests hnm hlam hne ?_
        rw [if_pos rfl, if_neg (Ne.symm hne)]
    replace e18 : H18 T7 = some (.tup [V.non, .bl true, .str "0", .ref q1, .int (placeOf kvs nm + 1), .int (placeOf kvs la)]) := e18
    refine ⟨T7, rfl, ⟨_, SqT.of e18⟩, for_tup (xs := [V.non, .bl true, .str "0", .ref q1, .int (placeOf kvs nm + 1), .int (placeOf kvs la)]) (fun i σ G => ∃ w6, σ = [some (.ref n), some (.ref d), some (.str nm), some (.str la), some (.ref F), w6, none, none] ∧ But F H18 G ∧ ∃ os : List V, os.length = 9 + i ∧ G F = some (.lst os) ∧ ∀ v ∈ os, BadV K (NoSt zs) (no G F) v)
      ⟨none, rfl, fun b o _ e => e, os0, ol, s1518 _ _ eF15, fun v hv => (bad9 v hv).mono (no_but (Same.but s1518))⟩ (fun i σ G _ ⟨_, _, b, _⟩ => SqT.of (b _ _ T7F e18)) ?_ ?_⟩
    · rintro i x σ G hx ⟨w6, rfl, bG, os, hol, eFG, hos⟩
      obtain ⟨hvq, hns⟩ := oddOk x (List.mem_of_getElem? hx)
      have hi : i < 6 := (List.getElem?_eq_some_iff.mp hx).1
      have hnG := bG _ _ hnF (s1518 _ _ hn15)
      have hdG := bG _ _ hdF (s1518 _ _ hd15)
      refine ⟨_, rfl, .inl ⟨rfl, _, SqL.of eFG⟩, _, rfl, n, rfl, ⟨_, SqL.of hnG⟩, fun D hD => dictA_it (f := fun z => if z = nm then x else .int (placeOf kvs z)) hnG hD hl (fun _ => rfl) (fun _ _ _ h => ⟨_, rfl, h⟩) (fun z hz G2 Q s q => ⟨_, rfl, _, rfl, rfl, _, rfl, ?_⟩) fun G2 ts2 s2 e2 p2 => ⟨D, ts2, _, rfl, SqL.of e2, Paired.mono (fun _ _ h => SqT.of h) p2, fun e3 he3 => ?_⟩⟩
      · have q0 : Q (if z = nm then x else .int (placeOf kvs z)) G2 := q G2 (Same.refl G2)
        refine ite2 (fun hh => ?_) (fun hh => ?_)
        · have h : z = nm := V.str.inj (of_decide_eq_true hh)
          rw [if_pos h] at q0
          exact ⟨_, rfl, q0⟩
        · have h : ¬ z = nm := fun e => hh (by rw [e]; exact decide_eq_true rfl)
          rw [if_neg h] at q0
          exact ⟨_, rfl, _, rfl, d, _, rfl, hval hz (s _ _ hdG), q0⟩
      rw [merge_kvV hnd]
      generalize hE : upd G2 e3 _ = G3
      have s3' : Same G2 G3 := hE ▸ same_upd he3
      have ee3 := congrFun hE.symm e3
      rw [upd_same] at ee3
      clear hE
      have sG3 : Same G G3 := s2.trans s3'
      have he3G : G e3 = none := s2.free he3
      have he3F : e3 ≠ F := fun z => by rw [z, eFG] at he3G; cases he3G
      refine ⟨F, _, _, rfl, rfl, sG3 _ _ eFG, Nat.lt_of_le_of_lt (show os.length ≤ 20 by omega) (by decide), ?_⟩
      refine ⟨_, rfl, fun b o hb e => by rw [upd_ne hb]; exact sG3 _ _ (bG _ _ hb e), os ++ [.ref e3], by rw [List.length_append, hol]; show 9 + i + 1 = _; omega, upd_same, bad_more hos (Same.but sG3) (.dct (no_at ee3 he3F) (by rw [kvV_len]; exact hl) (kv_ok hzl fun z _ => ?_) hns)⟩
      have hq3 : ValQ (no G3 F) x := (hvq.mono (no_but bG)).mono (no_but (Same.but sG3))
      show ValQ (no G3 F) (if z = nm then x else .int (placeOf kvs z))
      split
      · exact hq3
      · exact .int _
    rintro σ G ⟨w6, rfl, bG, os, hol, eFG, hos⟩
    have hol' : os.length = 15 := hol
    have hnG := bG _ _ hnF (s1518 _ _ hn15)
    have hdG := bG _ _ hdF (s1518 _ _ hd15)
    have sHG : Same H G := fun b o e => by
      have hb : b ≠ F := fun z => by rw [z, hF0] at e; cases e
      exact bG _ _ hb (s1518 _ _ (bF9 _ _ hb (s9 _ _ (s08 _ _ e))))
    -- shifted
    refine ⟨_, rfl, n, rfl, ⟨_, SqL.of hnG⟩, fun D hD => dictA_it (f := fun z => .int (placeOf kvs z + zs.length)) hnG hD hl (fun _ => rfl) (fun _ _ _ h => ⟨_, rfl, h⟩) (fun z hz G2 Q s q => ⟨_, rfl, _, rfl, d, _, rfl, hval hz (s _ _ hdG), _, rfl, n, _, rfl, .inl (SqL.of (s _ _ hnG)), ?_⟩) fun G2 ts2 s2' e2 p2 => ⟨D, ts2, _, rfl, SqL.of e2, Paired.mono (fun _ _ h => SqT.of h) p2, fun e3 he3 => ?_⟩⟩
    · rw [hll]
      exact ⟨_, _, rfl, rfl, q _ (Same.refl _)⟩
    rw [merge_kvV hnd]
    generalize hE : upd G2 e3 _ = G3
    have s3' : Same G2 G3 := hE ▸ same_upd he3
    have ee3 := congrFun hE.symm e3
    rw [upd_same] at ee3
    clear hE
    have sG3 : Same G G3 := s2'.trans s3'
    have hn3 := sG3 _ _ hnG
    have hd3 := sG3 _ _ hdG
    -- the last one
    refine ⟨_, rfl, _, rfl, _, rfl, n, rfl, ⟨_, SqL.of hn3⟩, fun D2 hD2 => dictM_it (kf := fun z => if z = nm then "no1" else z) (f := fun u => if u = ("no1" : Str) then .int (placeOf kvs nm) else .int (placeOf kvs u)) hn3 hD2 hl (fun _ => rfl) (fun z hz G4 Q s q => ⟨_, rfl, _, rfl, rfl, _, rfl, ?_⟩) (fun z hz G4 Q s q => ⟨_, rfl, _, rfl, d, _, rfl, hval hz (s _ _ hd3), ?_⟩) fun G4 ts4 s4' e4' p4' => ⟨D2, ts4, _, rfl, SqL.of e4', Paired.mono (fun _ _ h => SqT.of h) p4', fun e5 he5 => ?_⟩⟩
    · refine ite2 (fun hh => ?_) (fun hh => ?_)
      · have h : z = nm := V.str.inj (of_decide_eq_true hh)
        rw [if_pos h] at q
        exact q
      · have h : ¬ z = nm := fun e => hh (by rw [e]; exact decide_eq_true rfl)
        rw [if_neg h] at q
        exact ⟨_, rfl, q⟩
    · have hq := q G4 (Same.refl G4)
      by_cases h : z = nm
      · rw [if_pos h, if_pos rfl] at hq
        rw [h]
        exact hq
      · rw [if_neg h, if_neg (fun e => hnob (by rw [← e]; exact hz))] at hq
        exact hq
    have hno1 : ∀ z ∈ zs, z ≠ ("no1" : Str) := fun z hz e => hnob (by rw [← e]; exact hz)
    have hkd : (zs.map fun z => if z = nm then ("no1" : Str) else z).Nodup := by
      refine List.pairwise_map.mpr (List.Pairwise.imp_of_mem (fun {x y} hx hy hxy e => ?_) hnd)
      by_cases h1 : x = nm
      · by_cases h2 : y = nm
        · exact hxy (h1.trans h2.symm)
        · rw [if_pos h1, if_neg h2] at e
          exact hno1 y hy e.symm
      · by_cases h2 : y = nm
        · rw [if_neg h1, if_pos h2] at e
          exact hno1 x hx e
        · rw [if_neg h1, if_neg h2] at e
          exact hxy e
    have hkm : ∀ u ∈ zs.map (fun z => if z = nm then ("no1" : Str) else z), u.length ≤ 1000 ∧ u ≠ nm := fun u hu => by
      obtain ⟨z, hz, rfl⟩ := List.mem_map.mp hu
      by_cases h : z = nm
      · show (if z = nm then ("no1" : Str) else z).length ≤ 1000 ∧ (if z = nm then ("no1" : Str) else z) ≠ nm
        rw [if_pos h]
        exact ⟨by decide, Ne.symm (hno1 nm hnm)⟩
      · show (if z = nm then ("no1" : Str) else z).length ≤ 1000 ∧ (if z = nm then ("no1" : Str) else z) ≠ nm
        rw [if_neg h]
        exact ⟨hzl z hz, h⟩
    rw [merge_kvV hkd]
    generalize hE : upd G4 e5 _ = G5
    have s5' : Same G4 G5 := hE ▸ same_upd he5
    have ee5 := congrFun hE.symm e5
    rw [upd_same] at ee5
    clear hE
    have sG5 : Same G3 G5 := s4'.trans s5'
    refine ⟨by show 2 ≤ sizeLine; decide, fun W2 hW2 => ?_⟩
    generalize hE : upd G5 W2 _ = G6
    have s6' : Same G5 G6 := hE ▸ same_upd hW2
    have eW2 := congrFun hE.symm W2
    rw [upd_same] at eW2
    clear hE
    have sG6 : Same G G6 := sG3.trans (sG5.trans s6')
    refine ⟨F, W2, _, _, rfl, rfl, sG6 _ _ eFG, eW2, by show os.length + 2 ≤ sizeLine; rw [hol']; decide, fun R2 hR2 => ?_⟩
    have sR := same_upd (o := .lst (os ++ [.ref e3, .ref e5])) hR2
    have bad := fun v hv => (((hos v hv).mono no_same).mono sG6).mono sR
    have hF1 : ∀ i : Int, BadV K (NoSt zs) G (V.int i) := fun i => .int
    refine q R2 _ _ upd_same ((sHG.trans sG6).free hR2) (by rw [List.length_append, hol']; show 17 ≤ 40; decide) (fun v hv => ?_) ((sHG.trans sG6).trans sR)
    rcases List.mem_append.mp hv with hv | hv
    · exact bad v hv
    · simp only [List.mem_cons, List.not_mem_nil, or_false] at hv
      rcases hv with rfl | rfl
      · refine .dct (sR _ _ (s6' _ _ (sG5 _ _ ee3))) (by rw [kvV_len]; exact hl) (kv_ok hzl fun z _ => .int _) ?_
        refine no_sum (g := fun z => placeOf kvs z + zs.length) ?_
        rw [sum_add, hst.sum]
        have ec : (zs.map fun _ => (zs.length : Int)).sum = (zs.length : Int) * zs.length := sum_const
        rw [ec]
        have hp : 0 < (zs.length : Int) * zs.length := Int.mul_pos (by omega) (by omega)
        omega
      · refine .dct (sR _ _ (s6' _ _ ee5)) (by rw [kvV_len, List.length_map]; exact hl) (kv_ok (fun u hu => (hkm u hu).1) fun u _ => ?_) (no_stand (no_keyV hnm (kvV_none fun hm => (hkm _ hm).2 rfl)))
        show ValQ _ (if u = ("no1" : Str) then V.int (placeOf kvs nm) else .int (placeOf kvs u))
        split
        · exact .int _
        · exact .int _
end
end RK

namespace RK
open PySem L2
/-! ### objects that are no photo -/
def OddPh (K : PySem.W.Frag) (zs : List Str) (H : Hp) (v : V) : Prop := ∃ k, Th K H v k ∧ SameD H 6 v v ∧ (k.isSeq = true → ∃ a xs, v = .ref a ∧ SeqAt2 H a xs k ∧ xs.length ≤ 1000 ∧ (∀ x ∈ xs, ∃ kx, Th K H x kx) ∧ photoB zs xs = false)
theorem OddPh.mono {K : PySem.W.Frag} {zs : List Str} {H H' : Hp} {v : V} (h : OddPh K zs H v) (s : Same H H') : OddPh K zs H' v := by
  obtain ⟨k, h1, h2, h3⟩ := h
  refine ⟨k, h1.same s, h2.mono s, fun hk => ?_⟩
  obtain ⟨a, xs, e, h4, h5, h6, h7⟩ := h3 hk
  exact ⟨a, xs, e, h4.same s, h5, fun x hx => let ⟨kx, q⟩ := h6 x hx; ⟨kx, q.same s⟩, h7⟩
def spOddPh (K : PySem.W.Frag) : Sp := fun vs H Q _ => ∃ (n : Addr) (zs : List Str), vs = [.ref n] ∧ H n = some (.lst (zs.map V.str)) ∧ zs.Nodup ∧ (∀ z ∈ zs, z ∈ pool) ∧ 2 ≤ zs.length ∧ zs.length ≤ 20 ∧
  ∀ l os H', H' l = some (.lst os) → H l = none → os.length ≤ 40 → (∀ v ∈ os, OddPh K zs H' v) → Same H H' → Q (.ref l) H'
theorem odd_list {K : PySem.W.Frag} {zs : List Str} {H : Hp} {a : Addr} {xs : List V} (e : H a = some (.lst xs)) (hl : xs.length ≤ 1000) (hx : ∀ x ∈ xs, (∃ kx, Th K H x kx) ∧ SameD H 5 x x) (hb : photoB zs xs = false) : OddPh K zs H (.ref a) :=
  ⟨_, .lst e, SameD.lst (n := 5) e e rfl hl fun i x y e1 e2 => by
    rw [e1] at e2; cases e2
    exact (hx x (List.mem_of_getElem? e1)).2, fun _ => ⟨a, xs, rfl, .inl ⟨e, rfl⟩, hl, fun x h => (hx x h).1, hb⟩⟩
theorem photo_len {zs : List Str} {xs : List V} (h : xs.length ≠ zs.length) : photoB zs xs = false := by
  unfold photoB
  rw [decide_eq_false fun e => h (by have := V.int.inj e; omega)]
  rfl
theorem photo_odd {zs : List Str} {xs : List V} {i : Nat} (h : strange zs [] xs = some i) : photoB zs xs = false := by
  unfold photoB strangeV
  rw [h]
  show (_ && decide (V.int (i : Nat) = V.non)) = false
  rw [show decide (V.int (i : Nat) = V.non) = false by simp, Bool.and_false]
theorem strs_ok {K : PySem.W.Frag} {H : Hp} {l : List Str} (h : ∀ z ∈ l, z.length ≤ 1000) : ∀ x ∈ l.map V.str, (∃ kx, Th K H x kx) ∧ SameD H 5 x x := fun x hx => by
  obtain ⟨z, hz, rfl⟩ := List.mem_map.mp hx
  exact ⟨⟨_, .str (h z hz)⟩, .str (h z hz)⟩
section
variable {P : Program} {w : World} {K : PySem.W.Frag} {mg : Str → Option Value} {base : Heap}
theorem scOddPh : FnScope ["names", "found", "one"] ["names"] (defScope sOddPh) := ⟨rfl, rfl, rfl, by decide +kernel, rfl, by decide +kernel, by decide +kernel⟩
theorem ok_oddPh {f  : Addr} {fd  : FuncData} (F : Fun K "_law_w_odd_photos" "_law_w_odd_photos" sOddPh f fd) (B : B0 K mg) :
    FnOk P w K mg base CX0 1 f fd ["names"] (spOddPh K) := by
  refine F.ok scOddPh (fun vs H Q E h => ?_) (fun cdv A outer s H vs Q E hr h => ?_)
  · obtain ⟨n, zs, rfl, _⟩ := h
    rfl
  · obtain ⟨n, zs, rfl, hn, hnd, hpool, h2, h20, q⟩ := h
    have hu := hu_of hr
    refine ⟨_, pss_cons (ps_set (i := 1) scOddPh.nd rfl (Or.inl rfl) (pe_lst (pa_cons pe_non (pa_cons pe_int (pa_cons pe_str (pa_cons pe_bl (pa_cons pe_dnewK (pa_cons (pe_lst pa_nil) (pa_cons (pe_slice sl_list (pv 0) (po_some pe_int) po_none) (pa_cons (pe_op op_cat (pv 0) (pe_slice sl_list (pv 0) po_none (po_some pe_int))) (pa_cons (pe_op op_rep (pe_slice sl_list (pv 0) po_none (po_some pe_int)) (pe_callB call_len_seq (by rfl) B.len PySem.boot_len (pa_cons (pv 0) pa_nil))) pa_nil)))))))))))
      (pss_cons (ps_expr (pe_bm PySem.F.plainAttrs_list PySem.F.slot_list_extend PySem.F.type_list_extend mt_extend (pv 1) (pa_cons (pe_lst (pa_cons (pe_op op_cat (pe_lst (pa_cons pe_non pa_nil)) (pe_slice sl_list (pv 0) (po_some pe_int) po_none)) (pa_cons (pe_op op_cat (pe_lst (pa_cons pe_str pa_nil)) (pe_slice sl_list (pv 0) (po_some pe_int) po_none)) (pa_cons (pe_op op_cat (pe_lst (pa_cons (pe_lst (pa_cons (pe_ix ix_list (pv 0) pe_int (fun _ _ => rfl)) pa_nil)) pa_nil)) (pe_slice sl_list (pv 0) (po_some pe_int) po_none)) pa_nil)))) pa_nil)))
      (pss_one (ps_ret (pe_op op_cat (pv 1) (pe_lst (pa_cons (pe_callTy (call_dictP rfl) (by rfl) B.dict (by decide +kernel) (pa_cons (pe_lc (te := (tTup (tCons (tVar 2) (tCons (L2.tC (.int 0)) tNil)))) (own := [("one", 2)]) (g := (gName 2)) (tt := tYes) rfl scOddPh.nd (pi_list (pv 0)) (blkOk_by (N := ["names", "found", "one"]) (sc := defScope sOddPh) (by decide +kernel))
          (fun _ _ _ _ _ => (pg_name (i := 2) scOddPh.nd rfl (Or.inl rfl))) (fun _ _ _ _ _ => pts_nil) (fun _ _ _ _ _ => by exact (pe_tup (pa_cons (pv 2) (pa_cons pe_int pa_nil))))) pa_nil)) pa_nil)))))), ?_⟩
    have hll : (zs.map V.str).length = zs.length := List.length_map _
    have hl : zs.length ≤ 1000 := by omega
    have hzl : ∀ z ∈ zs, z.length ≤ 1000 := fun z hz => pool_len z (hpool z hz)
    obtain ⟨z0, z1, zr, rfl⟩ : ∃ z0 z1 zr, zs = z0 :: z1 :: zr := by
      match zs, h2 with
      | z0 :: z1 :: zr, _ => exact ⟨_, _, _, rfl⟩
    generalize hzs : z0 :: z1 :: zr = zs at *
    have hz0 : z0 ∈ zs := by rw [← hzs]; exact List.mem_cons_self
    have hat0 : (zs.map V.str)[0]? = some (.str z0) := by rw [← hzs]; rfl
    have c1 : cutV (zs.map V.str) (some 1) none = (zs.drop 1).map V.str := (cut_from (k := 1)).trans List.map_drop.symm
    have c0 : cutV (zs.map V.str) none (some 1) = [V.str z0] := by rw [show cutV (zs.map V.str) none (some 1) = _ from cut_to (k := 1), ← hzs]; rfl
    have hdl : ∀ z ∈ zs.drop 1, z.length ≤ 1000 := fun z hz => hzl z (List.mem_of_mem_drop hz)
    have hdn : (zs.drop 1).length = zs.length - 1 := List.length_drop
    -- nine
    refine fun p1 hp1 => ?_
    generalize hE : upd H p1 _ = H1
    have sH1 : Same H H1 := hE ▸ same_upd hp1
    have ep1 := congrFun hE.symm p1
    rw [upd_same] at ep1
    clear hE
    refine ⟨by show 0 ≤ sizeLine; decide, fun p2 hp2 => ?_⟩
    generalize hE : upd H1 p2 _ = H2
    have sH2 : Same H1 H2 := hE ▸ same_upd hp2
    have ep2 := congrFun hE.symm p2
    rw [upd_same] at ep2
    clear hE
    have s02 := sH1.trans sH2
    refine ⟨_, rfl, _, rfl, no_partK ⟨n, _, rfl, SqL.of (s02 _ _ hn), fun p3 hp3 => ?_⟩⟩
    rw [c1]
    generalize hE : upd H2 p3 _ = H3
    have sH3 : Same H2 H3 := hE ▸ same_upd hp3
    have ep3 := congrFun hE.symm p3
    rw [upd_same] at ep3
    clear hE
    have s03 := s02.trans sH3
    refine ⟨_, rfl, _, rfl, _, rfl, n, _, rfl, SqL.of (s03 _ _ hn), fun S1 hS1 => ?_⟩
    rw [c0]
    generalize hE : upd H3 S1 _ = H4
    have sH4 : Same H3 H4 := hE ▸ same_upd hS1
    have eS1 := congrFun hE.symm S1
    rw [upd_same] at eS1
    clear hE
    have s04 := s03.trans sH4
    refine ⟨n, S1, _, _, rfl, rfl, s04 _ _ hn, eS1, Nat.le_trans (show (zs.map V.str).length + 1 ≤ 21 by omega) (by decide), fun p4 hp4 => ?_⟩
    generalize hE : upd H4 p4 _ = H5
    have sH5 : Same H4 H5 := hE ▸ same_upd hp4
    have ep4 := congrFun hE.symm p4
    rw [upd_same] at ep4
    clear hE
    have s05 := s04.trans sH5
    refine ⟨_, rfl, _, rfl, n, _, rfl, SqL.of (s05 _ _ hn), fun S2 hS2 => ?_⟩
    rw [c0]
    generalize hE : upd H5 S2 _ = H6
    have sH6 : Same H5 H6 := hE ▸ same_upd hS2
    have eS2 := congrFun hE.symm S2
    rw [upd_same] at eS2
    clear hE
    have s06 := s05.trans sH6
    refine ⟨_, rfl, n, _, rfl, .inl (SqL.of (s06 _ _ hn)), ?_⟩
    rw [hll]
    refine ⟨S2, _, _, rfl, rfl, eS2, by omega, by omega, Nat.le_trans (show 1 * (zs.length : Int).toNat ≤ 20 by omega) (by decide), fun p5 hp5 => ?_⟩
    rw [Int.toNat_natCast, show (List.replicate zs.length [V.str z0]).flatten = (List.replicate zs.length z0).map V.str by
      rw [List.map_replicate]
      generalize zs.length = k
      induction k with
      | zero => rfl
      | succ k ih => rw [List.replicate_succ, List.flatten_cons, ih]; rfl]
    generalize hE : upd H6 p5 _ = H7
    have sH7 : Same H6 H7 := hE ▸ same_upd hp5
    have ep5 := congrFun hE.symm p5
    rw [upd_same] at ep5
    clear hE
    have s07 := s06.trans sH7
    refine ⟨by show 9 ≤ sizeLine; decide, fun FF hFF => ?_⟩
    generalize hE : upd H7 FF _ = H8
    have sH8 : Same H7 H8 := hE ▸ same_upd hFF
    have eFF := congrFun hE.symm FF
    rw [upd_same] at eFF
    clear hE
    have s08 := s07.trans sH8
    have s17 : Same H1 H7 := sH2.trans (sH3.trans (sH4.trans (sH5.trans (sH6.trans sH7))))
    have s37 : Same H3 H7 := sH4.trans (sH5.trans (sH6.trans sH7))
    have hrep : photoB zs ((List.replicate zs.length z0).map V.str) = false := by
      have hw : walkB zs (V.str z0) = true := decide_eq_true hz0
      obtain ⟨k, hk⟩ : ∃ k, zs.length = k + 2 := ⟨zs.length - 2, by omega⟩
      refine photo_odd (i := 1) ?_
      rw [hk]
      show strange zs [] (V.str z0 :: V.str z0 :: (List.replicate k z0).map V.str) = some 1
      rw [strange_good hw List.not_mem_nil, strange_bad2 (by simp)]
      rfl
    have bad8 : ∀ v ∈ [V.non, .int 5, .str "ab", .bl true, .ref p1, .ref p2, .ref p3, .ref p4, .ref p5], OddPh K zs H7 v := fun v hv => by
      simp only [List.mem_cons, List.not_mem_nil, or_false] at hv
      rcases hv with rfl | rfl | rfl | rfl | rfl | rfl | rfl | rfl | rfl
      · exact ⟨_, .non, .non, fun z => nomatch z⟩
      · exact ⟨_, .int _, .int _, fun z => nomatch z⟩
      · exact ⟨_, .str (by decide), .str (by decide), fun z => nomatch z⟩
      · exact ⟨_, .bl _, .bl _, fun z => nomatch z⟩
      · have e := s17 _ _ ep1
        exact ⟨_, .dict e, SameD.dict (n := 3) e e rfl (by decide) (fun i p q e1 => by simp at e1) (fun i p q e1 => by simp at e1), fun z => nomatch z⟩
      · exact odd_list ((sH3.trans s37) _ _ ep2) (by decide) (fun x hx => nomatch hx) (photo_len (by show 0 ≠ zs.length; omega))
      · exact odd_list (s37 _ _ ep3) (by rw [List.length_map]; omega) (strs_ok hdl) (photo_len (by rw [List.length_map]; omega))
      · exact odd_list ((sH6.trans sH7) _ _ ep4) (by rw [List.length_append, hll]; show zs.length + 1 ≤ 1000; omega) (fun x hx => by
          rcases List.mem_append.mp hx with h | h
          · exact strs_ok hzl x h
          · rw [List.mem_singleton.mp h]
            exact ⟨⟨_, .str (hzl _ hz0)⟩, .str (hzl _ hz0)⟩) (photo_len (by rw [List.length_append, hll]; show zs.length + 1 ≠ zs.length; omega))
      · exact odd_list ep5 (by rw [List.length_map, List.length_replicate]; omega) (strs_ok fun z hz => by rw [List.eq_of_mem_replicate hz]; exact hzl _ hz0) hrep
    refine st_name ?_
    -- three more
    refine ⟨_, rfl, .inl ⟨rfl, _, SqL.of eFF⟩, ?_⟩
    refine ⟨by show 1 ≤ sizeLine; decide, fun A1 hA1 => ?_⟩
    generalize hE : upd H8 A1 _ = G1
    have sG1 : Same H8 G1 := hE ▸ same_upd hA1
    have eA1 := congrFun hE.symm A1
    rw [upd_same] at eA1
    clear hE
    refine ⟨_, rfl, _, rfl, no_partK ⟨n, _, rfl, SqL.of ((s08.trans sG1) _ _ hn), fun B1 hB1 => ?_⟩⟩
    rw [c1]
    generalize hE : upd G1 B1 _ = G2
    have sG2 : Same G1 G2 := hE ▸ same_upd hB1
    have eB1 := congrFun hE.symm B1
    rw [upd_same] at eB1
    clear hE
    refine ⟨A1, B1, _, _, rfl, rfl, sG2 _ _ eA1, eB1, Nat.le_trans (show 1 + ((zs.drop 1).map V.str).length ≤ 21 by rw [List.length_map]; omega) (by decide), fun C1 hC1 => ?_⟩
    generalize hE : upd G2 C1 _ = G3
    have sG3 : Same G2 G3 := hE ▸ same_upd hC1
    have eC1 := congrFun hE.symm C1
    rw [upd_same] at eC1
    clear hE
    have s83 := sG1.trans (sG2.trans sG3)
    refine ⟨by show 1 ≤ sizeLine; decide, fun A2 hA2 => ?_⟩
    generalize hE : upd G3 A2 _ = G4
    have sG4 : Same G3 G4 := hE ▸ same_upd hA2
    have eA2 := congrFun hE.symm A2
    rw [upd_same] at eA2
    clear hE
    refine ⟨_, rfl, _, rfl, no_partK ⟨n, _, rfl, SqL.of ((s08.trans (s83.trans sG4)) _ _ hn), fun B2 hB2 => ?_⟩⟩
    rw [c1]
    generalize hE : upd G4 B2 _ = G5
    have sG5 : Same G4 G5 := hE ▸ same_upd hB2
    have eB2 := congrFun hE.symm B2
    rw [upd_same] at eB2
    clear hE
    refine ⟨A2, B2, _, _, rfl, rfl, sG5 _ _ eA2, eB2, Nat.le_trans (show 1 + ((zs.drop 1).map V.str).length ≤ 21 by rw [List.length_map]; omega) (by decide), fun C2 hC2 => ?_⟩
    generalize hE : upd G5 C2 _ = G6
    have sG6 : Same G5 G6 := hE ▸ same_upd hC2
    have eC2 := congrFun hE.symm C2
    rw [upd_same] at eC2
    clear hE
    have s86 := s83.trans (sG4.trans (sG5.trans sG6))
    refine ⟨_, rfl, n, _, 0, _, rfl, rfl, SqL.of ((s08.trans s86) _ _ hn), atI_nat (j := 0) hat0, by show 1 ≤ sizeLine; decide, fun I hI => ?_⟩
    generalize hE : upd G6 I _ = G7
    have sG7 : Same G6 G7 := hE ▸ same_upd hI
    have eI := congrFun hE.symm I
    rw [upd_same] at eI
    clear hE
    refine ⟨by show 1 ≤ sizeLine; decide, fun A3 hA3 => ?_⟩
    generalize hE : upd G7 A3 _ = G8
    have sG8 : Same G7 G8 := hE ▸ same_upd hA3
    have eA3 := congrFun hE.symm A3
    rw [upd_same] at eA3
    clear hE
    refine ⟨_, rfl, _, rfl, no_partK ⟨n, _, rfl, SqL.of ((s08.trans (s86.trans (sG7.trans sG8))) _ _ hn), fun B3 hB3 => ?_⟩⟩
    rw [c1]
    generalize hE : upd G8 B3 _ = G9
    have sG9 : Same G8 G9 := hE ▸ same_upd hB3
    have eB3 := congrFun hE.symm B3
    rw [upd_same] at eB3
    clear hE
    refine ⟨A3, B3, _, _, rfl, rfl, sG9 _ _ eA3, eB3, Nat.le_trans (show 1 + ((zs.drop 1).map V.str).length ≤ 21 by rw [List.length_map]; omega) (by decide), fun C3 hC3 => ?_⟩
    generalize hE : upd G9 C3 _ = G10
    have sG10 : Same G9 G10 := hE ▸ same_upd hC3
    have eC3 := congrFun hE.symm C3
    rw [upd_same] at eC3
    clear hE
    refine ⟨by show 3 ≤ sizeLine; decide, fun XL hXL => ?_⟩
    generalize hE : upd G10 XL _ = G11
    have sG11 : Same G10 G11 := hE ▸ same_upd hXL
    have eXL := congrFun hE.symm XL
    rw [upd_same] at eXL
    clear hE
    have s7B := sG7.trans (sG8.trans (sG9.trans (sG10.trans sG11)))
    have s8B := s86.trans s7B
    have eFF11 := s8B _ _ eFF
    refine ⟨FF, XL, _, _, rfl, rfl, eFF11, eXL, by show 9 + 3 ≤ sizeLine; decide, ?_⟩
    have no1 : ("no1" : Str) ∉ zs := fun h => by have := hpool _ h; revert this; decide +kernel
    have tail : ∀ {G : Hp} {y : V}, (∃ kx, Th K G y kx) → SameD G 5 y y → ∀ x ∈ [y] ++ (zs.drop 1).map V.str, (∃ kx, Th K G x kx) ∧ SameD G 5 x x := fun {G y} h1 h3 x hx => by
      rcases List.mem_append.mp hx with h | h
      · rw [List.mem_singleton.mp h]
        exact ⟨h1, h3⟩
      · exact strs_ok hdl x h
    have tlen : ∀ {y : V}, ([y] ++ (zs.drop 1).map V.str).length ≤ 1000 := fun {y} => by rw [List.length_append, List.length_map]; show 1 + (zs.drop 1).length ≤ 1000; omega
    have noF : ∀ {G : Hp} {b : Addr} {o : HO}, Same H8 G → G b = none → b ≠ FF := fun s hb z => by
      have := s _ _ eFF
      rw [← z, hb] at this
      cases this
    have s7n : Same H7 (no G11 FF) := fun b o h => no_at (s8B _ _ (sH8 _ _ h)) (ne_of_none h hFF)
    have bad11 : ∀ v ∈ [V.non, .int 5, .str "ab", .bl true, .ref p1, .ref p2, .ref p3, .ref p4, .ref p5] ++ [.ref C1, .ref C2, .ref C3], OddPh K zs (no G11 FF) v := fun v hv => by
      rcases List.mem_append.mp hv with hv | hv
      · exact (bad8 v hv).mono s7n
      · simp only [List.mem_cons, List.not_mem_nil, or_false] at hv
        rcases hv with rfl | rfl | rfl
        · exact odd_list (no_at ((sG4.trans (sG5.trans (sG6.trans s7B))) _ _ eC1) (noF (o := .lst []) (sG1.trans sG2) hC1)) tlen (tail ⟨_, .non⟩ .non) (photo_odd (i := 0) (strange_bad1 rfl))
        · exact odd_list (no_at (s7B _ _ eC2) (noF (o := .lst []) (s83.trans (sG4.trans sG5)) hC2)) tlen (tail ⟨_, .str (by decide)⟩ (.str (by decide))) (photo_odd (i := 0) (strange_bad1 (decide_eq_false no1)))
        · have eI' := no_at ((sG8.trans (sG9.trans (sG10.trans sG11))) _ _ eI) (noF (o := .lst []) s86 hI)
          exact odd_list (no_at (sG11 _ _ eC3) (noF (o := .lst []) (s86.trans (sG7.trans (sG8.trans sG9))) hC3)) tlen (tail ⟨_, .lst eI'⟩ (SameD.lst (n := 4) eI' eI' rfl (by show 1 ≤ 1000; decide) fun i x y e1 e2 => by
            rcases i with _ | i
            · cases e1; cases e2; exact .str (hzl _ hz0)
            · exact absurd e1 (by simp))) (photo_odd (i := 0) (strange_bad1 rfl))
    have ol : ([V.non, .int 5, .str "ab", .bl true, .ref p1, .ref p2, .ref p3, .ref p4, .ref p5] ++ [V.ref C1, .ref C2, .ref C3]).length = 12 := rfl
    generalize [V.non, .int 5, .str "ab", .bl true, .ref p1, .ref p2, .ref p3, .ref p4, .ref p5] ++ [V.ref C1, .ref C2, .ref C3] = os1 at bad11 ol ⊢
    have b12 : But FF G11 (upd G11 FF (.lst os1)) := But.upd
    have eF12 : (upd G11 FF (.lst os1)) FF = some (.lst os1) := upd_same
    generalize upd G11 FF (.lst os1) = G12 at b12 eF12
    have sH12 : Same H G12 := fun b o h => b12 _ _ (ne_of_none (s07 _ _ h) hFF) (s8B _ _ (s08 _ _ h))
    have bad12 : ∀ v ∈ os1, OddPh K zs G12 v := fun v hv => ((bad11 v hv).mono (no_but b12)).mono no_same
    -- a dict
    have hn12 := sH12 _ _ hn
    refine ⟨_, rfl, _, rfl, n, rfl, ⟨_, SqL.of hn12⟩, fun D hD => dictA_it (f := fun _ => .int 0) hn12 hD hl (fun _ => rfl) (fun _ _ _ h => ⟨_, rfl, h⟩) (fun z hz G Q s qq => qq G (Same.refl G)) fun G13 ts s13 hacc hpr => ?_⟩
    refine ⟨D, ts, _, rfl, SqL.of hacc, Paired.mono (fun t kv h => SqT.of h) hpr, fun e he => ?_⟩
    rw [merge_kvV hnd]
    generalize hE : upd G13 e _ = G14
    have sG14 : Same G13 G14 := hE ▸ same_upd he
    have ee := congrFun hE.symm e
    rw [upd_same] at ee
    clear hE
    refine ⟨by show 1 ≤ sizeLine; decide, fun LL hLL => ?_⟩
    generalize hE : upd G14 LL _ = G15
    have sG15 : Same G14 G15 := hE ▸ same_upd hLL
    have eLL := congrFun hE.symm LL
    rw [upd_same] at eLL
    clear hE
    have s1215 := s13.trans (sG14.trans sG15)
    refine ⟨FF, LL, _, _, rfl, rfl, s1215 _ _ eF12, eLL, by rw [ol]; show 12 + 1 ≤ sizeLine; decide, fun R hR => ?_⟩
    generalize hE : upd G15 R _ = G16
    have sG16 : Same G15 G16 := hE ▸ same_upd hR
    have eR := congrFun hE.symm R
    rw [upd_same] at eR
    clear hE
    have ee' := (sG15.trans sG16) _ _ ee
    refine q R _ G16 eR ((sH12.trans s1215).free hR) (by rw [List.length_append, ol]; show 12 + 1 ≤ 40; decide) (fun v hv => ?_) (sH12.trans (s1215.trans sG16))
    rcases List.mem_append.mp hv with hv | hv
    · exact (bad12 v hv).mono (s1215.trans sG16)
    · rw [List.mem_singleton.mp hv]
      have kok := kv_ok (zs := zs) (f := fun _ => V.int 0) (H := G16) hzl fun z _ => .int _
      have bv : BadV K (fun _ => True) G16 (.ref e) := .dct ee' (by rw [kvV_len]; exact hl) kok trivial
      obtain ⟨k, h1, h3, h4⟩ := bv
      refine ⟨.dict, .dict ee', h3, fun z => nomatch z⟩

end
end RK

/-! several except clauses, each with a name (the same one) -/
namespace L2
open PySem PySem.Spec PyProof.Rows
/-- what the clauses wish of an exception of the body, one after the other: slot i is the name's -/
def wManyAs (K : PySem.W.Frag) (len i : Nat) (Wout : WX) (D : Ends) : List (Value × (Addr → Value → Option Addr → TS)) → WX
  | [] => Wout
  | (c, ts) :: r => fun cls d σ H => ∃ b, PySem.W.exmOne K cls c = some b ∧ (b = true → σ.length = len → ∀ a, H a = none → ts a cls d { nx := fun σ' H' => D.nx (σ'.set i none) H', rt := D.rt, bk := fun σ' H' => D.bk (σ'.set i none) H', ct := fun σ' H' => D.ct (σ'.set i none) H' } (σ.set i (some (.ref a))) H) ∧ (b = false → wManyAs K len i Wout D r cls d σ H)
inductive HdsAs (X : Cx) (n : Str) : List ExceptHandler → List (Value × (Addr → Value → Option Addr → TS)) → Prop
  | nil : HdsAs X n [] []
  | cons {x : Str} {c : Value} {ts : Addr → Value → Option Addr → TS} {b₀ : Stmt} {suite : List Stmt} {np pos' : Pos} {hds : List ExceptHandler} {l : List (Value × (Addr → Value → Option Addr → TS))} (hc : Names X x c)
      (hsu : ∀ (a : Addr) (oe : Obj) (cls : Value) (d : Option Addr) (pn : List (Addr × Obj)), Zc cls d oe → (∃ vs, oe.data = .fields vs) → PSs (X.suite a ((a, oe) :: pn)) (b₀ :: suite) (ts a cls d)) (r : HdsAs X n hds l) :
      HdsAs X n (.ExceptHandler (some (.Name x np)) (some n) (b₀ :: suite) pos' :: hds) ((c, ts) :: l)
section
variable {X : Cx} {n : Str} {i : Nat} {body : List Stmt} {h₀ : ExceptHandler} {hds : List ExceptHandler} {l : List (Value × (Addr → Value → Option Addr → TS))} {pos : Pos} {tb : WX → TS} {Wout : WX}
theorem ps_try_manyAs (hs : X.stack = X.env :: X.outer) (hf : X.env.frame = some X.env.locals) (hN : X.N.Nodup) (hi : X.N[i]? = some n) (hln : X.env.kindOf n = some .local) (tk : Takes X Wout)
    (hb : ∀ (W : WX) (pn : List (Addr × Obj)) (xe : Value → Shared → Prop), Takes (X.tr pn xe) W → PassesOwn (model X.prog X.w) X.A X.env xe → PSs (X.tr pn xe) body (tb W))
    (hh : HdsAs X n (h₀ :: hds) l) : PS X (.Try body (h₀ :: hds) [] [] pos) (fun D σ H => tb (wManyAs X.K X.N.length i Wout D l) D σ H) := by
  refine ⟨fun pins s σ H D I h => ?_⟩
  have ok := I.ok
  have hfr : X.A.frames = some (X.env :: X.outer) := by rw [ok.frames, hs]
  have hloc : Loc X.env.scope n := .inl hln
  refine wpAny_Try_except ?_
  refine wpAny_mono ((hb (wManyAs X.K X.N.length i Wout D l) (X.pn ++ pins) (fun e s₁ => wpAny (model X.prog X.w) X.A (noteFrame e X.env) (fun _ s₂ => wpAny (model X.prog X.w) X.A (setFlight e none) (fun _ s₃ =>
    wpAny (model X.prog X.w) X.A (handleBy e X.env (h₀ :: hds)) (SP X pins D) X.xe s₃) X.xe s₂) X.xe s₁) (fun u s' xx => ?_) PassesOwn.looking).run [] s σ H D (I.toTry _) h) (fun f s1 hsp => ?_) (fun e s1 he => he)
  · -- the catch
    obtain ⟨a, B, sI, pins', σ', H', cls, d, rfl, J', nb, up, sky, na, os, ag, w⟩ := xx
    have J : Inv X pins σ' H' sI := J'.ofTry ok
    have sky' : Sky B (X.env :: X.outer) a (Zc cls d) X.env.locals s'.heap := by rw [← hs]; exact sky
    show wpAny (model X.prog X.w) X.A (noteFrame (.ref a) X.env) _ _ _
    refine Sky.land Zc.steady hfr hf sky' fun h3 fl3 up3 => ?_
    have J3 : Inv X pins σ' H' { s' with heap := h3 } := J.landed nb fl3.1 (up.trans up3) os ag
    obtain ⟨oe3, vs3, he3, hz3, hd3⟩ := fl3.there
    have notFr : ∀ {h : Heap} {o : Obj} {vs : Array Value}, h.FunFrames B (X.env :: X.outer) → h.get? a = some o → o.data = .fields vs → a ∉ frs (X.env :: X.outer) := fun {h o vs} ff e dd hm => by
      obtain ⟨_, o', e', hnf⟩ := ff.mem hm
      rw [e] at e'; cases e'
      exact hnf _ dd
    have nfr := notFr fl3.2.2.1 he3 hd3
    have nL : a ≠ X.env.locals := fun z => nfr (List.mem_filterMap.mpr ⟨X.env, List.mem_cons_self, by rw [hf, z]⟩)
    have nF : a ∉ X.fs := fun hm => by
      obtain ⟨e, he, q⟩ := List.mem_filterMap.mp hm
      exact nfr (List.mem_filterMap.mpr ⟨e, List.mem_cons_of_mem _ he, q⟩)
    have S3 := J3.suite he3 hd3 na nL nF
    have go : ∀ {hds' : List ExceptHandler} {l' : List (Value × (Addr → Value → Option Addr → TS))}, HdsAs X n hds' l' → wManyAs X.K X.N.length i Wout D l' cls d σ' H' →
        wpAny (model X.prog X.w) X.A (handleBy (.ref a) X.env hds') (SP X pins D) X.xe { s' with heap := h3 } := by
      intro hds' l' hk
      induction hk with
      | nil =>
        intro w
        refine wpAny_handleBy_nil ?_
        obtain ⟨k1, k2, k3, oe, vs, T, oT, ts', he, hz, hd, h1, hr⟩ := id fl3
        unfold PySem.passOn
        refine wpAny_bind (wpAny_field he hd h1 ?_)
        rw [if_neg (show ¬ ((Value.ref T == Value.none) = true) from by simp)]
        have fin : wpAny (model X.prog X.w) X.A (setFlight (.ref a) X.env.frame) (fun _ s4 => wpAny (model X.prog X.w) X.A (throw (.ref a) : Sem Flow) (SP X pins D) X.xe s4) X.xe { s' with heap := h3 } := by
          rw [hf]
          refine HandSPX.setFlight_upZ fl3 fun h4 hh4 up4 => wpAny_throw (tk _ _ ?_)
          exact ⟨a, B, sI, pins, σ', H', cls, d, rfl, J, nb, (up.trans up3).trans up4, .inr (.inr (by rw [hs]; exact hh4)), na, os, ag, w⟩
        first
          | exact wpAny_bind (wpAny_pure (wpAny_bind fin))
          | exact wpAny_bind fin
      | @cons x c ts b₀ suite np pos' hds2 l2 hc hsu r ih =>
        intro w
        obtain ⟨b, hb1, hyes, hno⟩ := w
        refine wpAny_handleBy_cons (codeAny_handlers_test ?_) (by intro q; cases q)
        have LT : PySem.W.Looks (model X.prog X.w) h3 (typeOf (.ref a)) cls := fun A Q E s k q => wpAny_typeOf_ref (k _ _ he3) (by rw [hz3.1]; exact q)
        have LM := PySem.W.exm_one (M := model X.prog X.w) (J3.kIn) LT hb1
        have test : ∀ {Q : Value → Shared → Prop} {E : Value → Shared → Prop}, Q c { s' with heap := h3 } → wpAny (model X.prog X.w) (X.A.mark (some (.ref a))) (eval (.Name x np) X.env) Q E { s' with heap := h3 } := fun {Q E} q => by
          obtain ⟨hg, hdbg, hm | ⟨hm, hv, hnn⟩⟩ := hc
          · exact ld_glob (X := X.suite a ((a, oe3) :: (X.pn ++ pins))) S3 hg hm q hdbg
          · exact ld_blt (X := X.suite a ((a, oe3) :: (X.pn ++ pins))) S3 hg hm hv q hnn hdbg
        refine test (LM.here ?_)
        cases b with
        | true =>
          refine codeAny_handlers_suite_as ?_
          refine HandSPX.lands_againZ fl3 fun h4 fl4 up4 => ?_
          have J4 : Inv X pins σ' H' { s' with heap := h4 } := J.landed nb fl4.1 ((up.trans up3).trans up4) os ag
          obtain ⟨oe4, vs4, he4, hz4, hd4⟩ := fl4.there
          have S4 := J4.suite he4 hd4 na nL nF
          refine store_ok (X := X.suite a ((a, oe4) :: (X.pn ++ pins))) (v := .ref a) S4 hN hi hloc rfl (fun s5 S5 => ?_) (.inr hln)
          refine wpAny_mono ((hsu a oe4 cls d (X.pn ++ pins) hz4 ⟨_, hd4⟩).run [] s5 _ H' _ S5 (hyes rfl J.len a na)) (fun f s6 hsp => ?_) (fun _ _ z => False.elim z)
          have end_ : ∀ {σ6 : St} {H6 : Hp} {Q : Shared → Prop}, Inv (X.suite a ((a, oe4) :: (X.pn ++ pins))) [] σ6 H6 s6 → (∀ s7, Inv X pins (σ6.set i none) H6 s7 → Q s7) →
              wpAny (model X.prog X.w) X.A (do bindName X.env n .none; unbindBehindTheSuite X.env n pos') (fun _ s7 => Q s7) X.xe s6 := fun {σ6 H6 Q} S6 hq => gone_ok (S6.unsuite ok) hN hi hln hq
          cases f with
          | next =>
            obtain ⟨σ6, H6, S6, q6⟩ := hsp
            exact end_ S6 fun s7 J7 => ⟨_, _, J7, q6⟩
          | brk =>
            obtain ⟨σ6, H6, S6, q6⟩ := hsp
            exact end_ S6 fun s7 J7 => ⟨_, _, J7, q6⟩
          | cont =>
            obtain ⟨σ6, H6, S6, q6⟩ := hsp
            exact end_ S6 fun s7 J7 => ⟨_, _, J7, q6⟩
          | ret u =>
            obtain ⟨v6, σ6, H6, S6, r6, q6⟩ := hsp
            exact end_ S6 fun s7 J7 => ⟨_, _, _, J7, r6, q6⟩
        | false =>
          show wpAny _ X.A (handleBy (.ref a) X.env hds2) _ _ _
          exact ih (hno rfl)
    exact go hh w
  · cases f with
    | next =>
      obtain ⟨σ', H', J', q⟩ := hsp
      exact wpAny_execs_nil ⟨σ', H', J'.ofTry ok, q⟩
    | brk =>
      obtain ⟨σ', H', J', q⟩ := hsp
      exact ⟨σ', H', J'.ofTry ok, q⟩
    | cont =>
      obtain ⟨σ', H', J', q⟩ := hsp
      exact ⟨σ', H', J'.ofTry ok, q⟩
    | ret u =>
      obtain ⟨v, σ', H', J', r, q⟩ := hsp
      exact ⟨v, σ', H', J'.ofTry ok, r, q⟩
end
end L2

namespace L2
open PySem PySem.Spec PyProof.Rows
/-! a local name that holds one of several defs, which may raise -/
structure HeldX (P : Program) (w : World) (K : PySem.W.Frag) (mg : Str → Option Value) (base : Heap) (k : Nat) (f : Addr) (sp : Sp) : Prop where
  ex : ∃ (fd : FuncData) (ps : List Str), FnOk P w K mg base (L2.CX P w) k f fd ps sp ∧ PySem.W.keepIn K (.ref f) = true ∧ Binds K fd ps []
def tCallX (i : Nat) (S : Addr → Sp → Prop) (E : XK) (t : TA) : TE := fun σ H Q => ∃ f sp, σ[i]? = some (some (.ref f)) ∧ S f sp ∧ t σ H fun vs H1 => sp vs H1 Q E
theorem pe_callX {X : Cx} {k i : Nat} {E : XK} {x : Str} {p pos : Pos} {e : Expr} {es : List Expr} {t : TA} {S : Addr → Sp → Prop} (A : ∀ f sp, S f sp → HeldX X.prog X.w X.K X.mg X.base k f sp) (hr : Room k X.A) (hN : X.N[i]? = some x) (hv : Vis X.env.scope x) (hx : Passes (L2.CX X.prog X.w) X E) (ha : PA X (e :: es) t)
    (hdb : (x == ("__debug__" : Str)) = false := by decide) (hcd : (x == ("__classdict__" : Str)) = false := by decide)
    (he : starEach (e :: es) X.env = (false, eval e X.env) :: starEach es X.env := by rfl) (hpl : (backTo pos (starEach es X.env)).any (·.1) = false := by rfl) : PE X (.Call (.Name x p) (e :: es) [] pos) (tCallX i S E t) := by
  refine ⟨fun pins s σ H Q I h => ?_⟩
  obtain ⟨f, sp, hs, hS, ht⟩ := h
  obtain ⟨fd, ps, F, hk, hb⟩ := (A f sp hS).ex
  refine (pe_callL (i := i) (f := f) (sp := sp) (dvs := []) (E := E) F hr hN hv hk hb .nil hx ha hdb hcd he hpl).run pins s σ H Q I ⟨hs, ?_⟩
  have e0 : (fun (vs : List V) (H1 : Hp) => sp (vs ++ []) H1 Q E) = fun vs H1 => sp vs H1 Q E := by
    funext vs H1
    rw [List.append_nil]
  show t σ H (fun vs H1 => sp (vs ++ []) H1 Q E)
  rw [e0]
  exact ht
end L2

namespace RK
open PySem L2 LamX
/-! ### what is told, or how it is refused -/
/-- the error at d says v of its field: the pair of the word and v is told -/
def Says (C : Addr) (f : Str) (z : Str) (Q : VK) (cls : Value) (d : Option Addr) (H : Hp) : Prop := cls = .ref C ∧ ∃ d' v, d = some d' ∧ H d' = some (.xd [(f, v)]) ∧ ∀ p, H p = none → Q (.ref p) (upd H p (.tup [.str z, v]))
/-- what an exception of the asked one must answer -/
def metW (K : PySem.W.Frag) (CP CS CF CL CE : Addr) (Q : VK) : XK := fun cls d H' => ∃ b, PySem.W.exmOne K cls (.ref CP) = some b ∧ (b = true → Says CP "thing" "path" Q cls d H') ∧ (b = false → ∃ b, PySem.W.exmOne K cls (.ref CS) = some b ∧ (b = true → Says CS "stand" "stand" Q cls d H') ∧ (b = false → ∃ b, PySem.W.exmOne K cls (.ref CF) = some b ∧ (b = true → Says CF "photo" "photo" Q cls d H') ∧ (b = false → ∃ b, PySem.W.exmOne K cls (.ref CL) = some b ∧ (b = true → Says CL "laps" "laps" Q cls d H') ∧ (b = false → ∃ b, PySem.W.exmOne K cls (.ref CE) = some b ∧ (b = true → Says CE "many" "many" Q cls d H') ∧ (b = false → False)))))
def TTmet (K : PySem.W.Frag) (CP CS CF CL CE : Addr) : (XK → Hp → VK → Prop) → Hp → VK → Prop := fun tl H Q =>
  tl (metW K CP CS CF CL CE Q) H fun v H' => 2 ≤ sizeLine ∧ ∀ p, H' p = none → Q (.ref p) (upd H' p (.tup [.str "told", v]))
theorem scMet : FnScope ["ask", "e"] ["ask"] (defScope sMet) := ⟨rfl, rfl, rfl, by decide +kernel, rfl, by decide +kernel, by decide +kernel⟩
theorem xfc_at {P : Program} {K : PySem.W.Frag} {mg : Str → Option Value} {nm fld : Str} {C f : Addr} (T : ErrAt P K mg nm fld C f) : XfC K C := ⟨T.x.ga, T.x.gg, T.x.exC, T.x.hdC⟩
section
variable {X : Cx} {CP fP CS fS CF fF CL fL CE fE : Addr}
theorem met_gives {g : Addr} {cdg : Value} {q : Str} (TP : ErrAt X.prog X.K X.mg "BadPath" "thing" CP fP) (TS : ErrAt X.prog X.K X.mg "BadStand" "stand" CS fS) (TF : ErrAt X.prog X.K X.mg "BadPhoto" "photo" CF fF) (TL : ErrAt X.prog X.K X.mg "BadLaps" "laps" CL fL) (TE : ErrAt X.prog X.K X.mg "BadMany" "many" CE fE) :
    GivesTo X ["ask", "e"] "_law_met" (defScope sMet) g cdg (defBody sMet) "ask" q (TTmet X.K CP CS CF CL CE) := by
  intro f c' s H Q tl act hc h
  refine ⟨_, pss_one (ps_try_manyAs (X := (cxOf C8.CX0 X.prog X.w X.K X.mg X.base ["ask", "e"] "_law_met" (defScope sMet) g cdg X.A X.stack s H C8.E0).nox) (i := 1) (n := "e")
      (tb := fun W D σ H => ∃ Ech : XK, (∀ cls d σ' H', Ech cls d H' → W cls d σ' H') ∧ σ[0]? = some (some (.ref f)) ∧ H c' = some (CodeO c' q) ∧ tl Ech H (fun v H' => 2 ≤ sizeLine ∧ ∀ p, H' p = none → D.rt (.ref p) (upd H' p (.tup [.str "told", v]))))
      (l := [(.ref CP, fun a cls d => tRet (tTup (tCons (tC (.str "path")) (tCons (tXf a cls d CP "thing" (tVar 1)) tNil)))), (.ref CS, fun a cls d => tRet (tTup (tCons (tC (.str "stand")) (tCons (tXf a cls d CS "stand" (tVar 1)) tNil)))), (.ref CF, fun a cls d => tRet (tTup (tCons (tC (.str "photo")) (tCons (tXf a cls d CF "photo" (tVar 1)) tNil)))), (.ref CL, fun a cls d => tRet (tTup (tCons (tC (.str "laps")) (tCons (tXf a cls d CL "laps" (tVar 1)) tNil)))), (.ref CE, fun a cls d => tRet (tTup (tCons (tC (.str "many")) (tCons (tXf a cls d CE "many" (tVar 1)) tNil))))])
      rfl rfl scMet.nd rfl rfl L2.takes0 (fun W pn xe tk _ => ?_)
      (.cons ⟨rfl, by decide, Or.inl TP.g⟩ (fun a oe cls d pn hz hf => pss_one (ps_ret (by exact (pe_tup (pa_cons pe_str (pa_cons (by exact (pe_xf (xfc_at TP) TP.x.noN hz hf (pv 1))) pa_nil)))))) (.cons ⟨rfl, by decide, Or.inl TS.g⟩ (fun a oe cls d pn hz hf => pss_one (ps_ret (by exact (pe_tup (pa_cons pe_str (pa_cons (by exact (pe_xf (xfc_at TS) TS.x.noN hz hf (pv 1))) pa_nil)))))) (.cons ⟨rfl, by decide, Or.inl TF.g⟩ (fun a oe cls d pn hz hf => pss_one (ps_ret (by exact (pe_tup (pa_cons pe_str (pa_cons (by exact (pe_xf (xfc_at TF) TF.x.noN hz hf (pv 1))) pa_nil)))))) (.cons ⟨rfl, by decide, Or.inl TL.g⟩ (fun a oe cls d pn hz hf => pss_one (ps_ret (by exact (pe_tup (pa_cons pe_str (pa_cons (by exact (pe_xf (xfc_at TL) TL.x.noN hz hf (pv 1))) pa_nil)))))) (.cons ⟨rfl, by decide, Or.inl TE.g⟩ (fun a oe cls d pn hz hf => pss_one (ps_ret (by exact (pe_tup (pa_cons pe_str (pa_cons (by exact (pe_xf (xfc_at TE) TE.x.noN hz hf (pv 1))) pa_nil)))))) .nil)))))), ?_⟩
  · refine ⟨fun pins s' σ H' D I h' => ?_⟩
    obtain ⟨Ech, hW, h1, h2, h3⟩ := h'
    exact (pss_one (ps_ret (pe_tup (pa_cons pe_str (pa_cons (act W pn xe Ech _ _ tk hW) pa_nil))))).run pins s' σ H' D I ⟨h1, h2, h3⟩
  · have say : ∀ {a : Addr} {cls : Value} {d : Option Addr} {C : Addr} {fld z : Str} {H' : Hp} {σ' : St} {D : Ends}, (∀ v H', Q v H' → D.rt v H') → Says C fld z Q cls d H' → σ'.length = 2 →
        tRet (tTup (tCons (tC (.str z)) (tCons (tXf a cls d C fld (tVar 1)) tNil))) D (σ'.set 1 (some (.ref a))) H' := by
      rintro a cls d C fld z H' σ' D hQ ⟨hc, d', v, hd, hH, q⟩ hl
      refine ⟨_, by rw [List.getElem?_set_self (by omega)], rfl, hc, d', _, v, hd, hH, by simp [List.lookup], by show 2 ≤ sizeLine; decide, fun p hp => hQ _ _ (q p hp)⟩
    refine ⟨_, fun cls d σ' H' ⟨b, e1, e2, e3⟩ => ⟨b, e1, fun hb hl a na => say (fun _ _ q => q) (e2 hb) hl, fun hb => ?_⟩, rfl, hc, h⟩
    obtain ⟨b, e1, e2, e3⟩ := e3 hb
    refine ⟨b, e1, fun hb hl a na => say (fun _ _ q => q) (e2 hb) hl, fun hb => ?_⟩
    obtain ⟨b, e1, e2, e3⟩ := e3 hb
    refine ⟨b, e1, fun hb hl a na => say (fun _ _ q => q) (e2 hb) hl, fun hb => ?_⟩
    obtain ⟨b, e1, e2, e3⟩ := e3 hb
    refine ⟨b, e1, fun hb hl a na => say (fun _ _ q => q) (e2 hb) hl, fun hb => ?_⟩
    obtain ⟨b, e1, e2, e3⟩ := e3 hb
    exact ⟨b, e1, fun hb hl a na => say (fun _ _ q => q) (e2 hb) hl, fun hb => e3 hb⟩
end
/-! ### asked, refused -/
def qLam : Str := "_law_odds_right.<locals>.<lambda>"
section
variable {X : Cx} {CP fP CS fS CF fF CL fL CE fE fM c Pt : Addr} {fdM : FuncData} {k : Nat} {T : List (Addr × Str)} {params : Arguments} {body : Expr} {scope : Scope} {t : XK → TE} {p lpos pos : Pos}
theorem pe_met (FM : Fun X.K "_law_met" "_law_met" sMet fM fdM) (bM : Binds X.K fdM ["ask"] []) (gM : X.mg "_law_met" = some (.ref fM)) (kM : PySem.W.keepIn X.K (.ref fM) = true)
    (TP : ErrAt X.prog X.K X.mg "BadPath" "thing" CP fP) (TS : ErrAt X.prog X.K X.mg "BadStand" "stand" CS fS) (TF : ErrAt X.prog X.K X.mg "BadPhoto" "photo" CF fF) (TL : ErrAt X.prog X.K X.mg "BadLaps" "laps" CL fL) (TE : ErrAt X.prog X.K X.mg "BadMany" "many" CE fE) (hg : Gl X "_law_met")
    (TB : TabB X.base X.mg c Pt) (hcode : X.env.code = .ref c) (hmT : (Pt, X.env.qual ++ "<lambda>") ∈ T) (hu : ∀ p ∈ T, p.1 = Pt → p.2 = X.env.qual ++ "<lambda>") (hr : Room (k + 2) X.A) (L : LamS X.env.scope scope) (hdef : defaultsOf params X.env = ([], []))
    (hbind : ∀ (q : Str) (cl : List (Str × Addr)) (pm cv ctv : Value), bindArgs (PySem.W.kla_fn "<lambda>" q params body scope cl pm cv ctv) ⟨[], []⟩ = pure [])
    (hbody : ∀ (A : Around) (outer : List Env) (s : Shared) (H : Hp) (E : XK) (f c' : Addr), Room k (A.deeper (lamEnv X scope s.heap.objs.size f c')) → PE (lamCx X A outer s H E scope f c') body (t E)) :
    PE X (.Call (.Name "_law_met" p) [.Lambda params body scope lpos] [] pos) (tLam T (TTmet X.K CP CS CF CL CE) t) := by
  obtain ⟨oc, od, kV, doc, pm, an, cdv, ct, osl, rfl, lk, hcd⟩ := FM.ex
  exact pe_lamcall hg gM kM lk hcd bM scMet rfl (.inl rfl) (met_gives TP TS TF TL TE) TB hcode hmT hu hr L hdef hbind hbody
end
theorem code_ne_lst {c : Addr} {q : Str} (xs : List V) : CodeO c q ≠ .lst xs := fun z => by
  unfold CodeO at z
  cases z
theorem code_ne_dK {c : Addr} {q : Str} (xs : List (Key × V)) : CodeO c q ≠ .dK xs := fun z => by
  unfold CodeO at z
  cases z
theorem tabs_keep {T : List (Addr × Str)} {H H' : Hp} (t : Tabs T H) (s : ∀ b o, (∀ xs, o ≠ .lst xs) → (∀ kvs, o ≠ .dK kvs) → H b = some o → H' b = some o) : Tabs T H' := fun p hp => by
  obtain ⟨ps, h1, h2, h3⟩ := t p hp
  refine ⟨ps, s _ _ (fun _ z => nomatch z) (fun _ z => nomatch z) h1, h2, fun pos cv hc => ?_⟩
  obtain ⟨c, e1, e2⟩ := h3 pos cv hc
  exact ⟨c, e1, s _ _ code_ne_lst code_ne_dK e2⟩
theorem one_met {K : PySem.W.Frag} {CP CS CF CL CE Cx : Addr} {T : List (Addr × Str)} {σ : St} {H : Hp} {R : VK} {te1 : XK → TE} {fld word : Str} {v : V} (hT : Tabs T H)
    (hw : ∀ Q d H', Says Cx fld word Q (.ref Cx) d H' → metW K CP CS CF CL CE Q (.ref Cx) d H')
    (h1 : ∀ (G : Hp) (Q' : VK) (E' : XK), ExtN H G → (∀ d H', Same G H' → H' d = some (.xd [(fld, v)]) → E' (.ref Cx) (some d) H') → te1 E' σ G Q')
    (fin : ∀ q G, ExtN H G → Tabs T G → G q = some (.tup [.str word, v]) → R (.ref q) G) : tLam T (TTmet K CP CS CF CL CE) te1 σ H R := by
  refine ⟨hT, fun G1 en1 tb1 => h1 G1 _ _ en1 fun d H2 s2 e2 => hw _ _ _ ⟨rfl, d, v, rfl, e2, fun q hq => ?_⟩⟩
  have sq := same_upd (o := .tup [V.str word, v]) hq
  have eq : (upd H2 q (.tup [V.str word, v])) q = some (.tup [V.str word, v]) := upd_same
  generalize upd H2 q (.tup [V.str word, v]) = H3 at sq eq
  exact fin q H3 ((en1.trans (ExtN.of s2)).trans (ExtN.of sq)) ((tb1.ext s2).ext sq) eq
theorem same_pair {G : Hp} {q t : Addr} {word : Str} {v : V} {k : Nat} (hq : G q = some (.tup [.str word, v])) (ht : G t = some (.tup [.str word, v])) (hw : word.length ≤ 1000) (h : SameD G k v v) : SameD G (k + 1) (.ref q) (.ref t) := by
  refine .tup hq ht rfl (by show 2 ≤ 1000; decide) fun j x y e1 e2 => ?_
  match j, e1, e2 with
  | 0, rfl, rfl => exact .str hw
  | 1, rfl, rfl => exact h
theorem SameD.extN {H H' : Hp} (s : ExtN H H') {n : Nat} {x y : V} (h : SameD H n x y) : SameD H' n x y := by
  induction h with
  | non => exact .non
  | int i => exact .int i
  | bl b => exact .bl b
  | str h => exact .str h
  | lst ha hb hl h1 h ih => exact .lst (s _ _ ha (fun _ z => nomatch z)) (s _ _ hb (fun _ z => nomatch z)) hl h1 ih
  | tup ha hb hl h1 h ih => exact .tup (s _ _ ha (fun _ z => nomatch z)) (s _ _ hb (fun _ z => nomatch z)) hl h1 ih
  | dict ha hb hl h1 hk h ih => exact .dict (s _ _ ha (fun _ z => nomatch z)) (s _ _ hb (fun _ z => nomatch z)) hl h1 hk ih
theorem Th.extN {K : PySem.W.Frag} {H H' : Hp} (s : ExtN H H') {v : V} {k : Kd} (h : Th K H v k) : Th K H' v k := by
  cases h with
  | non => exact .non
  | int i => exact .int i
  | bl b => exact .bl b
  | str h => exact .str h
  | lst e => exact .lst (s _ _ e (fun _ z => nomatch z))
  | tup e => exact .tup (s _ _ e (fun _ z => nomatch z))
  | dict e => exact .dict (s _ _ e (fun _ z => nomatch z))
  | fn e c => exact .fn e c
theorem BadV.extN {K : PySem.W.Frag} {Pd : List (Key × V) → Prop} {H H' : Hp} {v : V} (h : BadV K Pd H v) (s : ExtN H H') : BadV K Pd H' v := by
  obtain ⟨k, h1, h2, h3⟩ := h
  refine ⟨k, h1.extN s, h2.extN s, fun hk => ?_⟩
  obtain ⟨dd, kvs, e1, e2, e3, e4⟩ := h3 hk
  exact ⟨dd, kvs, e1, s _ _ e2 (fun _ z => nomatch z), fun kv hm => let ⟨kx, e⟩ := e3 kv hm; ⟨kx, e.extN s⟩, e4⟩
theorem st_seq {t u : TS} {D : Ends} {σ : St} {H : Hp} (h : t { D with nx := u D } σ H) : tSeq t u D σ H := h
theorem st_asg {te : TE} {g : TG} {D : Ends} {σ : St} {H : Hp} (h : te σ H fun x H1 => g x σ H1 D.nx) : tAsg te g D σ H := h
def ButN (D : Addr) (H G : Hp) : Prop := ∀ b o, b ≠ D → (∀ ps, o ≠ .tbl ps) → H b = some o → G b = some o
section
variable {K : PySem.W.Frag} {CP CS CW Cx : Addr} {T : List (Addr × Str)} {σ : St} {H : Hp} {R : Ends} {te1 te2 te3 te4 : XK → TE} {rest : TS} {fld word : Str} {v : V} {j : Nat}
variable {K : PySem.W.Frag} {CP CS CF CL CE Cx : Addr} {T : List (Addr × Str)} {σ : St} {H : Hp} {R : Ends} {te1 te2 te3 te4 : XK → TE} {rest : TS} {fld word : Str} {v : V} {j : Nat}
theorem start_met (hT : Tabs T H) (hj : j < σ.length)
    (hw : ∀ Q d H', Says Cx fld word Q (.ref Cx) d H' → metW K CP CS CF CL CE Q (.ref Cx) d H')
    (h1 : ∀ (G : Hp) (Q' : VK) (E' : XK), ExtN H G → (∀ d H', Same G H' → H' d = some (.xd [(fld, v)]) → E' (.ref Cx) (some d) H') → te1 E' σ G Q')
    (fin : ∀ D q G, ExtN H G → Tabs T G → (∀ o, H D = some o → ∃ ps, o = .tbl ps) → G D = some (.lst [.ref q]) → G q = some (.tup [.str word, v]) → rest R (σ.set j (some (.ref D))) G) :
    tSeq (tAsg (tLst (tCons (tLam T (TTmet K CP CS CF CL CE) te1) tNil)) (gName j)) rest R σ H := by
  refine ⟨hT, fun G1 en1 tb1 => h1 G1 _ _ en1 fun d H2 s2 e2 => hw _ _ _ ⟨rfl, d, v, rfl, e2, fun q hq => ?_⟩⟩
  have sq := same_upd (o := .tup [V.str word, v]) hq
  have eq : (upd H2 q (.tup [V.str word, v])) q = some (.tup [V.str word, v]) := upd_same
  generalize upd H2 q (.tup [V.str word, v]) = H3 at sq eq
  have en3 : ExtN H H3 := (en1.trans (ExtN.of s2)).trans (ExtN.of sq)
  have tb3 : Tabs T H3 := (tb1.ext s2).ext sq
  refine ⟨by show 1 ≤ sizeLine; decide, fun D hD => ?_⟩
  generalize hE : upd H3 D _ = H4
  have s4 : Same H3 H4 := hE ▸ same_upd hD
  have e4 := congrFun hE.symm D
  rw [upd_same] at e4
  clear hE
  refine fin D q H4 (en3.trans (ExtN.of s4)) (tb3.ext s4) (fun o ho => ?_) e4 (s4 _ _ eq)
  cases o with
  | tbl ps => exact ⟨ps, rfl⟩
  | _ => exact absurd (en3 _ _ ho (by intro _ z; cases z)) (by rw [hD]; intro z; cases z)
theorem more_met {D : Addr} {ps : List Addr} (hT : Tabs T H) (hj : σ[j]? = some (some (.ref D))) (hD : H D = some (.lst (ps.map V.ref))) (hps : ps.length ≤ 1000)
    (hw : ∀ Q d H', Says Cx fld word Q (.ref Cx) d H' → metW K CP CS CF CL CE Q (.ref Cx) d H')
    (h2 : ∀ (G : Hp) (Q' : VK) (E' : XK), ExtN H G → (∀ d H', Same G H' → H' d = some (.xd [(fld, v)]) → E' (.ref Cx) (some d) H') → te2 E' σ G Q')
    (fin : ∀ q G, ButN D H G → Tabs T G → G D = some (.lst ((ps ++ [q]).map V.ref)) → q ≠ D → G q = some (.tup [.str word, v]) → rest R σ G) :
    tSeq (tDrop (tBM K "list" rAppend (tVar j) (tCons (tLam T (TTmet K CP CS CF CL CE) te2) tNil))) rest R σ H := by
  refine ⟨.ref D, hj, .inl ⟨rfl, _, SqL.of hD⟩, hT, fun G5 en5 tb5 => h2 G5 _ _ en5 fun d H6 s6 e6 => hw _ _ _ ⟨rfl, d, v, rfl, e6, fun p2 hp2 => ?_⟩⟩
  have s7 := same_upd (o := .tup [V.str word, v]) hp2
  have e7 : (upd H6 p2 (.tup [V.str word, v])) p2 = some (.tup [V.str word, v]) := upd_same
  generalize upd H6 p2 (.tup [V.str word, v]) = H7 at s7 e7
  have s57 : Same G5 H7 := s6.trans s7
  have eD : H7 D = some (.lst (ps.map V.ref)) := s57 _ _ (en5 _ _ hD (fun _ z => nomatch z))
  have en7 : ExtN H H7 := en5.trans (ExtN.of s57)
  have tb7 : Tabs T H7 := tb5.ext s57
  have hp2D : p2 ≠ D := fun z => by rw [z, eD] at e7; cases e7
  refine ⟨D, _, _, rfl, rfl, eD, by rw [List.length_map]; exact Nat.lt_of_le_of_lt hps (by decide), ?_⟩
  refine fin p2 _ (fun b o hb n h => by rw [upd_ne hb]; exact en7 _ _ h n) ?_ ?_ hp2D (by rw [upd_ne hp2D]; exact e7)
  · refine tabs_keep tb7 fun b o n1 _ h => ?_
    by_cases hb : b = D
    · rw [hb, eD] at h
      cases h
      exact absurd rfl (n1 _)
    · rw [upd_ne hb]; exact h
  · rw [upd_same, List.map_append]
    rfl
end
theorem same_rep {G : Hp} {D q t : Addr} {word : Str} {v : V} {n k : Nat} {ps : List Addr} (hD : G D = some (.lst (ps.map V.ref))) (hps : ∀ r ∈ ps, G r = some (.tup [.str word, v])) (hl : ps.length = n) (hn : n ≤ 1000) (hq : G q = some (.lst (List.replicate n (V.ref t)))) (ht : G t = some (.tup [.str word, v])) (hw : word.length ≤ 1000) (h : SameD G k v v) : SameD G (k + 2) (.ref D) (.ref q) := by
  refine .lst hD hq (by rw [List.length_map, List.length_replicate, hl]) (by rw [List.length_map, hl]; exact hn) fun i x y e1 e2 => ?_
  obtain ⟨r, e3, rfl⟩ := get_map e1
  have e4 := List.mem_of_getElem? e2
  rw [(List.mem_replicate.mp e4).2]
  refine .tup (hps r (List.mem_of_getElem? e3)) ht rfl (by show 2 ≤ 1000; decide) fun j x y e1 e2 => ?_
  match j, e1, e2 with
  | 0, rfl, rfl => exact .str hw
  | 1, rfl, rfl => exact h
section
variable {K : PySem.W.Frag} {CP CS CF CL CE C1 C2 C3 : Addr} {T : List (Addr × Str)} {σ : St} {H : Hp} {R : Ends} {te1 te2 te3 : XK → TE} {rest : TS} {fld1 word1 fld2 word2 fld3 word3 : Str} {v1 v2 v3 : V} {j : Nat}
theorem two_metG (hT : Tabs T H) (hj : j < σ.length)
    (hw1 : ∀ Q d H', Says C1 fld1 word1 Q (.ref C1) d H' → metW K CP CS CF CL CE Q (.ref C1) d H') (hw2 : ∀ Q d H', Says C2 fld2 word2 Q (.ref C2) d H' → metW K CP CS CF CL CE Q (.ref C2) d H')
    (h1 : ∀ (G : Hp) (Q' : VK) (E' : XK), ExtN H G → (∀ d H', Same G H' → H' d = some (.xd [(fld1, v1)]) → E' (.ref C1) (some d) H') → te1 E' σ G Q')
    (h2 : ∀ (D : Addr) (G : Hp) (Q' : VK) (E' : XK), ExtN H G → (∀ d H', Same G H' → H' d = some (.xd [(fld2, v2)]) → E' (.ref C2) (some d) H') → te2 E' (σ.set j (some (.ref D))) G Q')
    (fin : ∀ D q1 q2 G, ExtN H G → Tabs T G → G D = some (.lst [.ref q1, .ref q2]) → G q1 = some (.tup [.str word1, v1]) → G q2 = some (.tup [.str word2, v2]) → rest R (σ.set j (some (.ref D))) G) :
    tSeq (tAsg (tLst (tCons (tLam T (TTmet K CP CS CF CL CE) te1) tNil)) (gName j)) (tSeq (tDrop (tBM K "list" rAppend (tVar j) (tCons (tLam T (TTmet K CP CS CF CL CE) te2) tNil))) rest) R σ H := by
  refine start_met hT hj hw1 h1 fun D q1 G1 en1 t1 hD0 eD1 eq1 => ?_
  have hjs : (σ.set j (some (.ref D)))[j]? = some (some (.ref D)) := List.getElem?_set_self hj
  have ext : ∀ {G G' : Hp}, ExtN H G → ButN D G G' → ExtN H G' := fun en b x o h n => b x o (fun z => by
    subst z
    obtain ⟨ps, rfl⟩ := hD0 o h
    exact n ps rfl) n (en x o h n)
  have qD1 : q1 ≠ D := fun z => by rw [z, eD1] at eq1; cases eq1
  have nt : ∀ w v ps, HO.tup [V.str w, v] ≠ .tbl ps := fun _ _ _ z => nomatch z
  refine more_met (ps := [q1]) t1 hjs eD1 (by show 1 ≤ 1000; decide) hw2 (fun G Q' E' en hE => h2 D G Q' E' (en1.trans en) hE) fun q2 G2 b2 t2 eD2 qD2 eq2 => ?_
  have en2 := ext en1 b2
  exact fin D q1 q2 G2 en2 t2 eD2 (b2 _ _ qD1 (nt _ _) eq1) eq2
theorem three_metG (hT : Tabs T H) (hj : j < σ.length)
    (hw1 : ∀ Q d H', Says C1 fld1 word1 Q (.ref C1) d H' → metW K CP CS CF CL CE Q (.ref C1) d H') (hw2 : ∀ Q d H', Says C2 fld2 word2 Q (.ref C2) d H' → metW K CP CS CF CL CE Q (.ref C2) d H') (hw3 : ∀ Q d H', Says C3 fld3 word3 Q (.ref C3) d H' → metW K CP CS CF CL CE Q (.ref C3) d H')
    (h1 : ∀ (G : Hp) (Q' : VK) (E' : XK), ExtN H G → (∀ d H', Same G H' → H' d = some (.xd [(fld1, v1)]) → E' (.ref C1) (some d) H') → te1 E' σ G Q')
    (h2 : ∀ (D : Addr) (G : Hp) (Q' : VK) (E' : XK), ExtN H G → (∀ d H', Same G H' → H' d = some (.xd [(fld2, v2)]) → E' (.ref C2) (some d) H') → te2 E' (σ.set j (some (.ref D))) G Q')
    (h3 : ∀ (D : Addr) (G : Hp) (Q' : VK) (E' : XK), ExtN H G → (∀ d H', Same G H' → H' d = some (.xd [(fld3, v3)]) → E' (.ref C3) (some d) H') → te3 E' (σ.set j (some (.ref D))) G Q')
    (fin : ∀ D q1 q2 q3 G, ExtN H G → Tabs T G → G D = some (.lst [.ref q1, .ref q2, .ref q3]) → G q1 = some (.tup [.str word1, v1]) → G q2 = some (.tup [.str word2, v2]) → G q3 = some (.tup [.str word3, v3]) → rest R (σ.set j (some (.ref D))) G) :
    tSeq (tAsg (tLst (tCons (tLam T (TTmet K CP CS CF CL CE) te1) tNil)) (gName j)) (tSeq (tDrop (tBM K "list" rAppend (tVar j) (tCons (tLam T (TTmet K CP CS CF CL CE) te2) tNil))) (tSeq (tDrop (tBM K "list" rAppend (tVar j) (tCons (tLam T (TTmet K CP CS CF CL CE) te3) tNil))) rest)) R σ H := by
  refine start_met hT hj hw1 h1 fun D q1 G1 en1 t1 hD0 eD1 eq1 => ?_
  have hjs : (σ.set j (some (.ref D)))[j]? = some (some (.ref D)) := List.getElem?_set_self hj
  have ext : ∀ {G G' : Hp}, ExtN H G → ButN D G G' → ExtN H G' := fun en b x o h n => b x o (fun z => by
    subst z
    obtain ⟨ps, rfl⟩ := hD0 o h
    exact n ps rfl) n (en x o h n)
  have qD1 : q1 ≠ D := fun z => by rw [z, eD1] at eq1; cases eq1
  have nt : ∀ w v ps, HO.tup [V.str w, v] ≠ .tbl ps := fun _ _ _ z => nomatch z
  refine more_met (ps := [q1]) t1 hjs eD1 (by show 1 ≤ 1000; decide) hw2 (fun G Q' E' en hE => h2 D G Q' E' (en1.trans en) hE) fun q2 G2 b2 t2 eD2 qD2 eq2 => ?_
  have en2 := ext en1 b2
  refine more_met t2 hjs eD2 (by show 2 ≤ 1000; decide) hw3 (fun G Q' E' en hE => h3 D G Q' E' (en2.trans en) hE) fun q3 G3 b3 t3 eD3 qD3 eq3 => ?_
  exact fin D q1 q2 q3 G3 (ext en2 b3) t3 eD3 (b3 _ _ qD1 (nt _ _) (b2 _ _ qD1 (nt _ _) eq1)) (b3 _ _ qD2 (nt _ _) eq2) eq3
end
theorem ExtN.same {H H1 H2 : Hp} (a : ExtN H H1) (s : Same H1 H2) : ExtN H H2 := fun b o h n => s _ _ (a b o h n)
theorem OddPh.extN {K : PySem.W.Frag} {zs : List Str} {H H' : Hp} {v : V} (h : OddPh K zs H v) (s : ExtN H H') : OddPh K zs H' v := by
  obtain ⟨k, h1, h2, h3⟩ := h
  refine ⟨k, h1.extN s, h2.extN s, fun hk => ?_⟩
  obtain ⟨a, xs, e, h4, h5, h6, h7⟩ := h3 hk
  exact ⟨a, xs, e, h4.elim (fun q => .inl ⟨s _ _ q.1 (fun _ z => nomatch z), q.2⟩) (fun q => .inr ⟨s _ _ q.1 (fun _ z => nomatch z), q.2⟩), h5, fun x hx => let ⟨kx, q⟩ := h6 x hx; ⟨kx, q.extN s⟩, h7⟩
end RK

namespace RK
open PySem L2
/-! ### who has the rests 0, 1, .. -/
theorem perm_of_subT {α : Type} [DecidableEq α] : ∀ {l m : List α}, l.Nodup → (∀ x ∈ l, x ∈ m) → m.length ≤ l.length → l.Perm m
  | [], m, _, _, h => by
    cases m with
    | nil => exact .refl _
    | cons x r => exact absurd h (by simp)
  | x :: r, m, hn, h, hl => by
    have hx := h x List.mem_cons_self
    obtain ⟨h1, h2⟩ := List.nodup_cons.mp hn
    have e := List.length_erase_of_mem hx
    have h0 : 0 < m.length := List.length_pos_of_mem hx
    have ih := perm_of_subT (l := r) (m := m.erase x) h2 (fun y hy => (List.mem_erase_of_ne (fun (z : y = x) => h1 (z ▸ hy))).mpr (h y (List.mem_cons_of_mem _ hy))) (by rw [List.length_cons] at hl; omega)
    exact (ih.cons x).trans (List.perm_cons_erase hx).symm
def rowR (n : Nat) (rs : List Int) : List Int := rs.map fun x => x % (n : Int)
theorem rowR_get {n : Nat} {rs : List Int} {i : Nat} (h : i < (rowR n rs).length) (h2 : i < rs.length) : (rowR n rs)[i] = rs[i] % (n : Int) := List.getElem_map _
theorem rowR_nd {n : Nat} {rs : List Int} (h : RowOk n rs) : (rowR n rs).Nodup := h.2.2.1
theorem rowR_len {n : Nat} {rs : List Int} : (rowR n rs).length = rs.length := List.length_map _
def photoR (zs : List Str) (rs : List Int) : List Str := (List.range zs.length).map fun (r : Nat) => zs.getD ((rowR zs.length rs).idxOf (r : Int)) ""
theorem rowR_all {n : Nat} {rs : List Int} (h0 : 0 < n) (h : RowOk n rs) : (rowR n rs).Perm ((List.range n).map fun (i : Nat) => (i : Int)) := by
  refine perm_of_subT h.2.2.1 (fun x hx => ?_) (by unfold rowR; rw [List.length_map, List.length_map, List.length_range, h.1]; exact Nat.le_refl _)
  obtain ⟨y, hy, rfl⟩ := List.mem_map.mp hx
  have h1 := Int.emod_nonneg y (show (n : Int) ≠ 0 by omega)
  have h2 := Int.emod_lt_of_pos y (show (0 : Int) < n by omega)
  exact List.mem_map.mpr ⟨(y % (n : Int)).toNat, List.mem_range.mpr (by omega), by omega⟩
theorem rowR_at {n : Nat} {rs : List Int} {r : Nat} (h0 : 0 < n) (h : RowOk n rs) (hr : r < n) : ∃ hj : (rowR n rs).idxOf (r : Int) < rs.length, (rs[(rowR n rs).idxOf (r : Int)]'hj) % (n : Int) = r := by
  have hm : (r : Int) ∈ rowR n rs := (rowR_all h0 h).mem_iff.mpr (List.mem_map.mpr ⟨r, List.mem_range.mpr hr, rfl⟩)
  have hj := List.idxOf_lt_length_of_mem hm
  have hj2 : (rowR n rs).idxOf (r : Int) < rs.length := by
    have : (rowR n rs).length = rs.length := List.length_map _
    omega
  refine ⟨hj2, ?_⟩
  have e := List.getElem_idxOf hj
  rw [rowR_get hj hj2] at e
  exact e
theorem photoR_get {zs : List Str} {rs : List Int} {r : Nat} (hnd : zs.Nodup) (h0 : 0 < zs.length) (h : RowOk zs.length rs) (hr : r < zs.length) : ∃ hj : (rowR zs.length rs).idxOf (r : Int) < zs.length, zs.getD ((rowR zs.length rs).idxOf (r : Int)) "" = zs[(rowR zs.length rs).idxOf (r : Int)]'hj ∧ rowG zs rs (zs[(rowR zs.length rs).idxOf (r : Int)]'hj) % (zs.length : Int) = r := by
  obtain ⟨hj, e⟩ := rowR_at h0 h hr
  have hj2 : (rowR zs.length rs).idxOf (r : Int) < zs.length := Nat.lt_of_lt_of_eq hj h.1
  refine ⟨hj2, by rw [List.getD_eq_getElem?_getD, List.getElem?_eq_getElem hj2]; rfl, ?_⟩
  rw [row_at hnd h.1 hj2]
  exact e
theorem photoR_len {zs : List Str} {rs : List Int} : (photoR zs rs).length = zs.length := by unfold photoR; rw [List.length_map, List.length_range]
theorem photoR_ix {zs : List Str} {rs : List Int} {i : Nat} (h : i < (photoR zs rs).length) : (photoR zs rs)[i] = zs.getD ((rowR zs.length rs).idxOf (i : Int)) "" := (List.getElem_map _).trans (by rw [List.getElem_range])
theorem photoR_perm {zs : List Str} {rs : List Int} (hnd : zs.Nodup) (h0 : 0 < zs.length) (h : RowOk zs.length rs) : (photoR zs rs).Perm zs := by
  refine (perm_of_subT hnd (fun z hz => ?_) (Nat.le_of_eq photoR_len)).symm
  obtain ⟨i, hi, rfl⟩ := List.mem_iff_getElem.mp hz
  have hi2 : i < rs.length := by rw [h.1]; exact hi
  have h1 := Int.emod_nonneg rs[i] (show (zs.length : Int) ≠ 0 by omega)
  have h2 := Int.emod_lt_of_pos rs[i] (show (0 : Int) < (zs.length : Int) by omega)
  refine List.mem_map.mpr ⟨(rs[i] % (zs.length : Int)).toNat, List.mem_range.mpr (by omega), ?_⟩
  have hi3 : i < (rowR zs.length rs).length := by unfold rowR; rw [List.length_map]; exact hi2
  have e : ((rs[i] % (zs.length : Int)).toNat : Int) = (rowR zs.length rs)[i]'hi3 := by
    rw [rowR_get hi3 hi2]
    omega
  rw [e, List.Nodup.idxOf_getElem (rowR_nd h) i hi3, List.getD_eq_getElem?_getD, List.getElem?_eq_getElem hi]
  rfl
theorem restV_row {zs : List Str} {rs : List Int} {z : Str} (hz : z ∈ zs) : restV zs (kvOf zs (rowG zs rs)) z = rowG zs rs z % (zs.length : Int) := by
  unfold restV nOf
  rw [place_kv hz]
theorem photo_row {zs : List Str} {rs : List Int} (hnd : zs.Nodup) (h0 : 0 < zs.length) (h : RowOk zs.length rs) {kvs : List (Key × V)} (hk : ∀ z ∈ zs, placeOf kvs z = rowG zs rs z) : photoL zs kvs = photoR zs rs := by
  have hrv : ∀ z ∈ zs, restV zs kvs z = rowG zs rs z % (zs.length : Int) := fun z hz => by
    unfold restV nOf
    rw [hk z hz]
  have hp := photoR_perm hnd h0 h
  unfold photoL
  refine List.Perm.eq_of_pairwise (le := fun x y => restV zs kvs x ≤ restV zs kvs y) (fun a b ha hb h1 h2 => ?_) ?_ ?_ ((List.mergeSort_perm _ _).trans hp.symm)
  · have ha' := (List.mergeSort_perm _ _).mem_iff.mp ha
    have hb' := hp.mem_iff.mp hb
    rw [hrv a ha', hrv b hb'] at h1 h2
    obtain ⟨i, hi, rfl⟩ := List.mem_iff_getElem.mp ha'
    obtain ⟨j, hj, rfl⟩ := List.mem_iff_getElem.mp hb'
    rw [row_at hnd h.1 hi, row_at hnd h.1 hj] at h1 h2
    have hi2 : i < (rowR zs.length rs).length := by unfold rowR; rw [List.length_map, h.1]; exact hi
    have hj2 : j < (rowR zs.length rs).length := by unfold rowR; rw [List.length_map, h.1]; exact hj
    have e : (rowR zs.length rs)[i] = (rowR zs.length rs)[j] := by
      rw [rowR_get hi2 (by rw [h.1]; exact hi), rowR_get hj2 (by rw [h.1]; exact hj)]
      omega
    have := (List.getElem_inj (h₀ := hi2) (h₁ := hj2) (rowR_nd h)).mp e
    subst this
    rfl
  · refine List.Pairwise.imp (fun h => of_decide_eq_true h) (List.pairwise_mergeSort (fun a b c h1 h2 => ?_) (fun a b => ?_) zs)
    · exact decide_eq_true (Int.le_trans (of_decide_eq_true h1) (of_decide_eq_true h2))
    · rw [Bool.or_eq_true]
      rcases Int.le_total (restV zs kvs a) (restV zs kvs b) with h | h
      · exact .inl (decide_eq_true h)
      · exact .inr (decide_eq_true h)
  · unfold photoR
    rw [List.pairwise_map]
    refine List.Pairwise.imp_of_mem (fun {a b} ha hb hab => ?_) List.pairwise_lt_range
    obtain ⟨h1, e1, e2⟩ := photoR_get hnd h0 h (List.mem_range.mp ha)
    obtain ⟨h3, e3, e4⟩ := photoR_get hnd h0 h (List.mem_range.mp hb)
    rw [e1, e3, hrv _ (List.getElem_mem h1), hrv _ (List.getElem_mem h3), e2, e4]
    omega
def spWPhoto : Sp := fun vs H Q _ => ∃ (n r : Addr) (zs : List Str) (rs : List Int), vs = [.ref n, .ref r] ∧ H n = some (.lst (zs.map V.str)) ∧ H r = some (.lst (rs.map V.int)) ∧ RowOk zs.length rs ∧ zs.Nodup ∧ 0 < zs.length ∧ zs.length ≤ 20 ∧ ∀ l H', H l = none → H' l = some (.lst ((photoR zs rs).map V.str)) → Same H H' → Q (.ref l) H'
theorem idx_int {R : List Int} {x : Int} (h : x ∈ R) : (R.map V.int)[R.idxOf x]? = some (.int x) ∧ ∀ (m : Nat) (z' : V), m < R.idxOf x → (R.map V.int)[m]? = some z' → eqV z' (.int x) = false := by
  have hl := List.idxOf_lt_length_of_mem h
  refine ⟨?_, fun m z' hm hz => ?_⟩
  · rw [List.getElem?_map, List.getElem?_eq_getElem hl, List.getElem_idxOf hl]
    rfl
  · obtain ⟨z, e, rfl⟩ := get_map hz
    obtain ⟨h1, e1⟩ := List.getElem?_eq_some_iff.mp e
    have hne := List.not_of_lt_findIdx (p := (· == x)) (xs := R) hm
    show (z == x) = false
    rw [e1] at hne
    exact hne
def scPh1 : Scope := { kind := .function, names := [(".0", .local), ("rest", .local), ("many", .cell), ("names", .cell), ("row", .cell)], isGenerator := false, isCoroutine := false }
section
variable {P : Program} {w : World} {K : PySem.W.Frag} {mg : Str → Option Value} {base : Heap}
theorem scWPhoto : FnScope ["names", "row", "many", "place", "rest"] ["names", "row"] (defScope sWPhoto) := ⟨rfl, rfl, rfl, by decide +kernel, rfl, by decide +kernel, by decide +kernel⟩
theorem ok_wPhoto {f  : Addr} {fd  : FuncData} (F : Fun K "_law_w_photo" "_law_w_photo" sWPhoto f fd) (B : B0 K mg) :
    FnOk P w K mg base CX0 1 f fd ["names", "row"] spWPhoto := by
  refine F.ok scWPhoto (fun vs H Q E h => ?_) (fun cdv A outer s H vs Q E hr h => ?_)
  · obtain ⟨n, r, zs, rs, rfl, _⟩ := h
    rfl
  · obtain ⟨n, r, zs, rs, rfl, hn, hr1, hro, hnd, h0, hl, q⟩ := h
    have hu := hu_of hr
    refine ⟨_, pss_cons (ps_set (i := 2) scWPhoto.nd rfl (Or.inr rfl) (pe_callB call_len_seq (by rfl) B.len PySem.boot_len (pa_cons (pv 0) pa_nil)))
      (pss_one (ps_ret (pe_lc (te := (tOp (rIxL K) (tVar 0) (tBM K "list" (rIndex K) (tLc (iList K (tVar 1)) (gName 3) tYes (tOp (rI (fun _ j => 0 < j) fun i j => .int (i % j)) (tCB rInt (tCons (tVar 3) tNil)) (tVar 2)) [3]) (tCons (tVar 4) tNil)))) (own := [("rest", 4)]) (g := (gName 4)) (tt := tYes) rfl scWPhoto.nd (pi_range1 (by rfl) B.range (pa_cons (pv 2) pa_nil)) (blkOk_by (N := ["names", "row", "many", "place", "rest"]) (sc := defScope sWPhoto) (by decide +kernel))
          (fun _ _ _ _ _ => (pg_name (i := 4) scWPhoto.nd rfl (Or.inl rfl))) (fun _ _ _ _ _ => pts_nil) (fun _ _ _ _ _ => by exact (pe_ix ix_list (pv 0) (pe_bm PySem.F.plainAttrs_list PySem.F.slot_list_index PySem.F.type_list_index mt_index (pe_lc (te := (tOp (rI (fun _ j => 0 < j) fun i j => .int (i % j)) (tCB rInt (tCons (tVar 3) tNil)) (tVar 2))) (own := [("place", 3)]) (g := (gName 3)) (tt := tYes) rfl scWPhoto.nd (pi_list (pv 1)) (blkOk_by (N := ["names", "row", "many", "place", "rest"]) (sc := scPh1) (by decide +kernel))
          (fun _ _ _ _ _ => (pg_name (i := 3) scWPhoto.nd rfl (Or.inl rfl))) (fun _ _ _ _ _ => pts_nil) (fun _ _ _ _ _ => by exact (pe_op op_mod (pe_callTy call_int1 (by rfl) B.int (by decide +kernel) (pa_cons (pv 3) pa_nil)) (pv 2)))) (pa_cons (pv 4) pa_nil)) (fun _ _ => rfl)))))), ?_⟩
    have hll : (zs.map V.str).length = zs.length := List.length_map _
    have hrl : (rs.map V.int).length = zs.length := by rw [List.length_map, hro.1]
    refine ⟨_, rfl, n, _, rfl, .inl (SqL.of hn), ?_⟩
    rw [hll]
    refine st_name ?_
    refine ⟨_, rfl, _, rfl, by omega, by omega, fun D hD => ?_⟩
    rw [show ((zs.length : Nat) : Int).toNat = zs.length from Int.toNat_natCast _]
    refine lc_it (walk_range (lo := 0) (n := zs.length)) (fun i G => Same H G ∧ G D = some (.lst (((photoR zs rs).take i).map V.str))) ⟨same_upd hD, upd_same⟩ (fun _ _ _ _ => True.intro) ?_ ?_
    · rintro i x G G' hi ⟨sG, hacc⟩ ⟨rfl, rfl⟩
      refine ⟨rfl, tyes ?_⟩
      have hr2 := sG _ _ hr1
      refine ⟨_, rfl, ?_⟩
      refine ⟨_, rfl, r, rfl, ⟨_, SqL.of hr2⟩, fun D2 hD2 => ?_⟩
      refine lc_it (walk_list (K := K) (a := r) (xs := rs.map V.int)) (fun j G2 => Same G' G2 ∧ G2 D2 = some (.lst (((rowR zs.length rs).take j).map V.int))) ⟨same_upd hD2, upd_same⟩ (fun j G2 _ p => SqL.of (p.1 _ _ hr2)) ?_ ?_
      · rintro j x G2 G3 hj ⟨s2, hacc2⟩ ⟨rfl, hx⟩
        rw [List.length_map] at hj
        obtain ⟨y, hy, rfl⟩ := get_map hx
        refine ⟨rfl, tyes ?_⟩
        refine ⟨_, rfl, .inl ⟨_, rfl, _, rfl, _, _, rfl, rfl, by omega, ?_⟩⟩
        have hjr : j < (rowR zs.length rs).length := by rw [rowR_len]; exact hj
        have ey : (rowR zs.length rs)[j] = y % (zs.length : Int) := by
          rw [rowR_get hjr hj]
          rw [List.getElem?_eq_getElem hj] at hy
          rw [Option.some.inj hy]
        refine ⟨_, hacc2, ?_, fun b o e => by rw [upd_ne (ne_of_none e hD2)]; exact s2 _ _ e, ?_⟩
        · rw [List.length_map, List.length_take]
          exact Nat.lt_of_le_of_lt (Nat.min_le_left _ _) (Nat.lt_of_lt_of_le hj (by rw [hro.1]; exact Nat.le_trans hl (by decide)))
        · rw [upd_same, List.take_succ_eq_append_getElem hjr, List.map_append, ey]
          rfl
      · rintro G2 ⟨s2, hacc2⟩
        rw [List.length_map, List.take_of_length_le (by rw [rowR_len]; exact Nat.le_refl _)] at hacc2
        have hm : (((0 : Int) + (i : Nat)) : Int) ∈ rowR zs.length rs := by
          rw [Int.zero_add]
          exact (rowR_all h0 hro).mem_iff.mpr (List.mem_map.mpr ⟨i, List.mem_range.mpr hi, rfl⟩)
        have hfl : ((rowR zs.length rs).map V.int).all flatV = true := List.all_eq_true.mpr fun x hx => by
          obtain ⟨z, _, rfl⟩ := List.mem_map.mp hx
          rfl
        obtain ⟨ja, jb⟩ := idx_int hm
        obtain ⟨hj, e1, e2⟩ := photoR_get hnd h0 hro hi
        refine ⟨.inl ⟨rfl, _, SqL.of hacc2⟩, _, rfl, D2, _, .int _, _, _, rfl, rfl, SqL.of hacc2, rfl, hfl, ja, decide_eq_true rfl, jb, ?_⟩
        have ei : (0 : Int) + (i : Nat) = ((i : Nat) : Int) := Int.zero_add _
        rw [ei]
        have zj : (zs.map V.str)[(rowR zs.length rs).idxOf (i : Int)]? = some (.str (zs[(rowR zs.length rs).idxOf (i : Int)]'hj)) := by
          rw [List.getElem?_map, List.getElem?_eq_getElem hj]
          rfl
        refine ⟨n, _, _, _, rfl, rfl, SqL.of (s2 _ _ (sG _ _ hn)), atI_nat zj, ?_⟩
        refine ⟨_, s2 _ _ hacc, ?_, fun b o e => by rw [upd_ne (ne_of_none e hD)]; exact s2 _ _ (sG _ _ e), ?_⟩
        · rw [List.length_map, List.length_take]
          exact Nat.lt_of_le_of_lt (Nat.min_le_left _ _) (Nat.lt_of_lt_of_le hi (Nat.le_trans hl (by decide)))
        · have hip : i < (photoR zs rs).length := by rw [photoR_len]; exact hi
          have ep : (photoR zs rs)[i] = zs[(rowR zs.length rs).idxOf (i : Int)]'hj := by
            rw [← e1]
            exact photoR_ix hip
          rw [upd_same, List.take_succ_eq_append_getElem hip, List.map_append, ep]
          rfl
    · rintro G ⟨sG, hacc⟩
      rw [List.take_of_length_le (Nat.le_of_eq photoR_len)] at hacc
      exact q D G hD hacc sG

end
end RK

namespace RK
open PySem L2
/-! ### numbers made and suffered, by places in the row -/
def madeR (rs : List Int) : List Int := (List.range rs.length).map fun i => (((List.range rs.length).filter fun j => decide (j ≠ i)).map fun j => posOf (netI rs i j)).sum
def suffR (rs : List Int) : List Int := (List.range rs.length).map fun i => (((List.range rs.length).filter fun j => decide (j ≠ i)).map fun j => posOf (netI rs j i)).sum
theorem row_made {zs : List Str} {rs : List Int} (nd : zs.Nodup) (hl : rs.length = zs.length) {z : Str} (hz : z ∈ zs) : rowG zs (madeR rs) z = madeG zs (kvOf zs (rowG zs rs)) z := by
  have hi := List.idxOf_lt_length_of_mem hz
  have ez : zs = (List.range zs.length).map fun j => zs.getD j "" := by
    refine List.ext_getElem (by rw [List.length_map, List.length_range]) fun i h1 h2 => ?_
    rw [List.getElem_map, List.getElem_range, List.getD_eq_getElem?_getD, List.getElem?_eq_getElem h1]
    rfl
  have gd : ∀ j, j < zs.length → zs.getD j "" ∈ zs ∧ zs.idxOf (zs.getD j "") = j := fun j hj => by
    have e : zs.getD j "" = zs[j] := by rw [List.getD_eq_getElem?_getD, List.getElem?_eq_getElem hj]; rfl
    rw [e]
    exact ⟨List.getElem_mem hj, nd.idxOf_getElem j hj⟩
  have e1 : rowG zs (madeR rs) z = (((List.range rs.length).filter fun j => decide (j ≠ zs.idxOf z)).map fun j => posOf (netI rs (zs.idxOf z) j)).sum := by
    unfold rowG madeR
    rw [List.getD_eq_getElem?_getD, List.getElem?_map, List.getElem?_range (by omega)]
    rfl
  have e2 : (zs.filter fun y => decide (y ≠ z)).map (fun y => posOf (netP zs (kvOf zs (rowG zs rs)) z y)) = ((List.range rs.length).filter fun j => decide (j ≠ zs.idxOf z)).map fun j => posOf (netI rs (zs.idxOf z) j) := by
    conv => lhs; arg 2; rw [ez]
    rw [List.filter_map, List.map_map, hl]
    have ef : (List.range zs.length).filter ((fun y => decide (y ≠ z)) ∘ fun j => zs.getD j "") = (List.range zs.length).filter fun j => decide (j ≠ zs.idxOf z) := by
      refine List.filter_congr fun j hj => ?_
      obtain ⟨g1, g2⟩ := gd j (List.mem_range.mp hj)
      show decide (zs.getD j "" ≠ z) = decide (j ≠ zs.idxOf z)
      refine decide_eq_decide.mpr ⟨fun h e => h ?_, fun h e => h (by rw [← e, g2])⟩
      have h1 : zs.getD j "" = zs[zs.idxOf z] := by rw [e, List.getD_eq_getElem?_getD, List.getElem?_eq_getElem hi]; rfl
      rw [h1, List.getElem_idxOf]
    rw [ef]
    refine List.map_congr_left fun j hj => ?_
    obtain ⟨g1, g2⟩ := gd j (List.mem_range.mp (List.mem_filter.mp hj).1)
    show posOf (netP zs _ z (zs.getD j "")) = _
    rw [net_row nd hl hz g1, g2]
  rw [e1]
  unfold madeG
  rw [e2]
theorem row_suff {zs : List Str} {rs : List Int} (nd : zs.Nodup) (hl : rs.length = zs.length) {z : Str} (hz : z ∈ zs) : rowG zs (suffR rs) z = suffG zs (kvOf zs (rowG zs rs)) z := by
  have hi := List.idxOf_lt_length_of_mem hz
  have ez : zs = (List.range zs.length).map fun j => zs.getD j "" := by
    refine List.ext_getElem (by rw [List.length_map, List.length_range]) fun i h1 h2 => ?_
    rw [List.getElem_map, List.getElem_range, List.getD_eq_getElem?_getD, List.getElem?_eq_getElem h1]
    rfl
  have gd : ∀ j, j < zs.length → zs.getD j "" ∈ zs ∧ zs.idxOf (zs.getD j "") = j := fun j hj => by
    have e : zs.getD j "" = zs[j] := by rw [List.getD_eq_getElem?_getD, List.getElem?_eq_getElem hj]; rfl
    rw [e]
    exact ⟨List.getElem_mem hj, nd.idxOf_getElem j hj⟩
  have e1 : rowG zs (suffR rs) z = (((List.range rs.length).filter fun j => decide (j ≠ zs.idxOf z)).map fun j => posOf (netI rs j (zs.idxOf z))).sum := by
    unfold rowG suffR
    rw [List.getD_eq_getElem?_getD, List.getElem?_map, List.getElem?_range (by omega)]
    rfl
  have e2 : (zs.filter fun y => decide (y ≠ z)).map (fun y => posOf (netP zs (kvOf zs (rowG zs rs)) y z)) = ((List.range rs.length).filter fun j => decide (j ≠ zs.idxOf z)).map fun j => posOf (netI rs j (zs.idxOf z)) := by
    conv => lhs; arg 2; rw [ez]
    rw [List.filter_map, List.map_map, hl]
    have ef : (List.range zs.length).filter ((fun y => decide (y ≠ z)) ∘ fun j => zs.getD j "") = (List.range zs.length).filter fun j => decide (j ≠ zs.idxOf z) := by
      refine List.filter_congr fun j hj => ?_
      obtain ⟨g1, g2⟩ := gd j (List.mem_range.mp hj)
      show decide (zs.getD j "" ≠ z) = decide (j ≠ zs.idxOf z)
      refine decide_eq_decide.mpr ⟨fun h e => h ?_, fun h e => h (by rw [← e, g2])⟩
      have h1 : zs.getD j "" = zs[zs.idxOf z] := by rw [e, List.getD_eq_getElem?_getD, List.getElem?_eq_getElem hi]; rfl
      rw [h1, List.getElem_idxOf]
    rw [ef]
    refine List.map_congr_left fun j hj => ?_
    obtain ⟨g1, g2⟩ := gd j (List.mem_range.mp (List.mem_filter.mp hj).1)
    show posOf (netP zs _ (zs.getD j "") z) = _
    rw [net_row nd hl g1 hz, g2]
  rw [e1]
  unfold suffG
  rw [e2]
theorem pos_max {x : Int} : (if x > 0 then x else 0) = posOf x := by
  unfold posOf
  split <;> split <;> omega
def spRow (f : List Int → List Int) : Sp := fun vs H Q _ => ∃ (r : Addr) (rs : List Int), vs = [.ref r] ∧ H r = some (.lst (rs.map V.int)) ∧ 0 < rs.length ∧ rs.length ≤ 1000 ∧ ∀ p H', H p = none → H' p = some (.lst ((f rs).map V.int)) → Same H H' → Q (.ref p) H'
section
variable {P : Program} {w : World} {K : PySem.W.Frag} {mg : Str → Option Value} {base : Heap} {C CB fB : Addr}
def scRow1 : Scope := { kind := .function, names := [(".0", .local), ("i", .cell), ("sum", .globalImplicit), ("range", .globalImplicit), ("many", .cell), ("places", .cell)], isGenerator := false, isCoroutine := false }
end
end RK

namespace RK
open PySem L2
/-! ### nets told right -/
def rev2 {α : Type} : List α → List α
  | [a, b] => [b, a]
  | _ => []
theorem rel2 {zs : List V} {ws : List Value} (h : Vals zs ws) : Vals (rev2 zs) (rev2 ws) := by
  cases h with
  | nil => exact .nil
  | cons h1 t1 => cases t1 with
    | nil => exact .nil
    | cons h2 t2 => cases t2 with
      | nil => exact .cons h2 (.cons h1 .nil)
      | cons _ _ => exact .nil
theorem same_kv {G : Hp} {a b : Addr} {zs : List Str} {g : Str → Int} (ha : G a = some (.dK (kvOf zs g))) (hb : G b = some (.dK (kvOf zs g))) (hl : zs.length ≤ 1000) (hz : ∀ z ∈ zs, z.length ≤ 1000) : SameD G 3 (.ref a) (.ref b) := by
  refine .dict (n := 0) ha hb rfl (by unfold kvOf; rw [List.length_map]; exact hl) (fun i p q e1 e2 => ?_) fun i p q e1 e2 => ?_
  · rw [e1] at e2; cases e2
    refine ⟨rfl, ?_⟩
    unfold kvOf at e1
    obtain ⟨x, hx, rfl⟩ := List.mem_map.mp (List.mem_of_getElem? e1)
    exact hz _ hx
  · rw [e1] at e2; cases e2
    unfold kvOf at e1
    obtain ⟨x, hx, rfl⟩ := List.mem_map.mp (List.mem_of_getElem? e1)
    exact .int _
theorem text_kv {ks : List Str} {g : Str → Int} (hz : ∀ z ∈ ks, z ∈ pool) (hl : ks.length ≤ 1000) (hb : ∀ z ∈ ks, (g z).natAbs < 2 ^ 101) :
    (∀ kv ∈ kvOf ks g, ∃ i : Int, kv.2 = .int i) ∧ (dictD (kvOf ks g)).showable = true ∧ (dictD (kvOf ks g)).shown.length ≤ sizeLine := by
  have hk : ∀ kv ∈ kvOf ks g, ∃ z, z ∈ ks ∧ kv = ((Sum.inr z : Key), V.int (g z)) := fun kv hm => by
    obtain ⟨y, hy, e⟩ := List.mem_map.mp hm
    exact ⟨y, hy, e.symm⟩
  have hint : ∀ z ∈ ks, (g z).natAbs < 2 ^ 400 := fun z h => Nat.lt_of_lt_of_le (hb z h) (Nat.pow_le_pow_right (by decide) (by decide))
  have hp : ∀ z ∈ pool, z.length ≤ 40 ∧ ∀ c ∈ z.cps.toList, c < 16 ^ 8 := by decide +kernel
  refine ⟨fun kv hm => ?_, ?_, ?_⟩
  · obtain ⟨z, _, rfl⟩ := hk kv hm
    exact ⟨_, rfl⟩
  · unfold dictD
    rw [PyData.showable]
    refine show_kv fun kv hm => ?_
    obtain ⟨z, h, rfl⟩ := hk kv hm
    exact ⟨show_str, show_int (hint z h)⟩
  · refine dict_short (by rw [kvOf_len]; exact hl) fun kv hm => ?_
    obtain ⟨z, h, rfl⟩ := hk kv hm
    obtain ⟨h1, h2⟩ := hp z (hz z h)
    exact ⟨str_short h1 h2, int_short (hint z h)⟩
theorem dict_kv {zs ks : List Str} {g : Str → Int} (pm : ks.Perm zs) : dictB zs (kvOf ks g) = true := by
  unfold dictB
  have hl : (kvOf ks g).length = zs.length := by rw [kvOf_len, pm.length_eq]
  rw [decide_eq_true hl, Bool.true_and, List.all_eq_true]
  intro z hz
  rw [val_kv (pm.mem_iff.mpr hz)]
  rfl
theorem kv_th {K : PySem.W.Frag} {G : Hp} {ks : List Str} {g : Str → Int} : ∀ kv ∈ kvOf ks g, ∃ kx, Th K G kv.2 kx := fun kv hm => by
  obtain ⟨y, hy, rfl⟩ := List.mem_map.mp hm
  exact ⟨_, .int _⟩
theorem of_good {K : PySem.W.Frag} {C CP CN p t h : Addr} {zs ks : List Str} {g : Str → Int} {R : Hp → Hp → List Str → (Str → Int) → V → Prop} {G : Hp} {Q : VK} {E : XK} (hp : PathAt C G p t zs) (nd : zs.Nodup) (h0 : 0 < zs.length) (hl : zs.length ≤ 1000) (hh : G h = some (.dK (kvOf ks g))) (pm : ks.Perm zs)
    (k : ∀ x H', R G H' zs (placeOf (kvOf ks g)) x → Same G H' → Q x H') : spOfNets K C CP CN R [.ref p, .ref h] G Q E :=
  ⟨.ref p, .ref h, rfl, .inr ⟨p, t, zs, .dict, rfl, hp, nd, h0, hl, .dict hh, (fun z => nomatch z), fun _ => ⟨h, _, rfl, hh, kv_th, (fun z => absurd ((dict_kv pm).symm.trans z) (fun q => nomatch q)), fun _ => k⟩⟩⟩
theorem num_good {K : PySem.W.Frag} {C CP CS p t h : Addr} {zs ks : List Str} {kvs : List (Key × V)} {f : List Str → List (Key × V) → Str → Int} {G : Hp} {Q : VK} {E : XK} (hp : PathAt C G p t zs) (nd : zs.Nodup) (h0 : 0 < zs.length) (hl : zs.length ≤ 1000) (hh : G h = some (.dK kvs)) (hst : Sta zs ks kvs)
    (k : ∀ e H', G e = none → H' e = some (.dK (kvOf zs (f zs kvs))) → Same G H' → Q (.ref e) H') : spNum K C CP CS f [.ref p, .ref h] G Q E :=
  ⟨.ref p, .ref h, rfl, .inr ⟨p, t, zs, .dict, rfl, hp, nd, h0, hl, .dict hh, (fun z => nomatch z), fun _ => ⟨h, _, rfl, hh, (by rw [hst.kv]; exact kv_th), (fun z => absurd (hst.ok.symm.trans z) (fun q => nomatch q)), fun _ => k⟩⟩⟩
def DueAt (H : Hp) (zs : List Str) (g : Str → Int) (v : V) : Prop := match clashN zs g with
  | .no => ∃ e, v = .ref e ∧ H e = some (.dK (kvOf zs (movG zs g)))
  | _ => v = .non
theorem DueAt.same {H H' : Hp} {zs : List Str} {g : Str → Int} {v : V} (h : DueAt H zs g v) (s : Same H H') : DueAt H' zs g v := by
  unfold DueAt at h ⊢
  cases hc : clashN zs g with
  | no => rw [hc] at h; obtain ⟨e, h1, h2⟩ := h; exact ⟨e, h1, s _ _ h2⟩
  | sum _ => rw [hc] at h; exact h
  | tog _ _ => rw [hc] at h; exact h
theorem mov_congr {zs ks : List Str} {g : Str → Int} (pm : ks.Perm zs) : kvOf zs (movG zs (placeOf (kvOf ks g))) = kvOf zs (movG zs g) := kv_congr fun z hz => by
  unfold movG
  rw [place_kv (pm.mem_iff.mpr hz)]
theorem cl_congr {zs ks : List Str} {g : Str → Int} (nd : zs.Nodup) (pm : ks.Perm zs) : clashN zs (placeOf (kvOf ks g)) = clashN zs g := clash_congr nd fun z hz => place_kv (pm.mem_iff.mpr hz)
theorem RStand.due {H H' : Hp} {zs ks : List Str} {g : Str → Int} {x : V} (nd : zs.Nodup) (pm : ks.Perm zs) (h : RStand H H' zs (placeOf (kvOf ks g)) x) : DueAt H' zs g x ∧ ∀ e, x = .ref e → H e = none := by
  unfold RStand at h
  unfold DueAt
  rw [cl_congr nd pm] at h
  cases hc : clashN zs g with
  | no =>
    rw [hc] at h
    obtain ⟨e, h1, h2, h3⟩ := h
    rw [mov_congr pm] at h3
    exact ⟨⟨e, h1, h3⟩, fun e' z => by rw [h1] at z; cases z; exact h2⟩
  | sum _ => rw [hc] at h; exact ⟨h, fun e' z => by rw [h] at z; cases z⟩
  | tog _ _ => rw [hc] at h; exact ⟨h, fun e' z => by rw [h] at z; cases z⟩
theorem RClash.cl {H H' : Hp} {zs ks : List Str} {g : Str → Int} {x : V} (nd : zs.Nodup) (pm : ks.Perm zs) (h : RClash H H' zs (placeOf (kvOf ks g)) x) : ClAt H' (clashN zs g) x := by
  unfold RClash at h
  rw [cl_congr nd pm] at h
  exact h
theorem clash_mem {zs : List Str} {g : Str → Int} {a b : Str} (nd : zs.Nodup) (h : clashN zs g = .tog a b) : a ∈ zs ∧ b ∈ zs := by
  unfold clashN at h
  split at h
  · cases h
  · split at h
    · cases h
    · rename_i p e
      cases h
      obtain ⟨h1, h2, _⟩ := mem_pairs.mp (show (p.1, p.2) ∈ pairsOf zs from ahead_pairs nd (List.mem_of_find?_eq_some e))
      exact ⟨h1, h2⟩
theorem same_cl {G : Hp} {zs : List Str} {g : Str → Int} {x y : V} (nd : zs.Nodup) (hz : ∀ z ∈ zs, z.length ≤ 1000) (hx : ClAt G (clashN zs g) x) (hy : ClAt G (clashN zs g) y) : SameD G 3 x y := by
  cases hc : clashN zs g with
  | no =>
    rw [hc] at hx hy
    cases (show x = .non from hx)
    cases (show y = .non from hy)
    exact .non
  | sum s =>
    rw [hc] at hx hy
    obtain ⟨t, rfl, ht⟩ := hx
    obtain ⟨u, rfl, hu⟩ := hy
    refine SameD.tup (n := 2) ht hu rfl (by show 2 ≤ 1000; decide) fun i x y e1 e2 => ?_
    match i, e1, e2 with
    | 0, rfl, rfl => exact .str (by decide)
    | 1, rfl, rfl => exact .int _
  | tog a b =>
    rw [hc] at hx hy
    obtain ⟨ha, hb⟩ := clash_mem nd hc
    obtain ⟨t, rfl, ht⟩ := hx
    obtain ⟨u, rfl, hu⟩ := hy
    refine SameD.tup (n := 2) ht hu rfl (by show 3 ≤ 1000; decide) fun i x y e1 e2 => ?_
    match i, e1, e2 with
    | 0, rfl, rfl => exact .str (by decide)
    | 1, rfl, rfl => exact .str (hz _ ha)
    | 2, rfl, rfl => exact .str (hz _ hb)
theorem same_due {G : Hp} {zs : List Str} {g : Str → Int} {x y : V} (hl : zs.length ≤ 1000) (hz : ∀ z ∈ zs, z.length ≤ 1000) (hx : DueAt G zs g x) (hy : DueAt G zs g y) : SameD G 3 x y := by
  unfold DueAt at hx hy
  cases hc : clashN zs g with
  | no =>
    rw [hc] at hx hy
    obtain ⟨t, rfl, ht⟩ := hx
    obtain ⟨u, rfl, hu⟩ := hy
    exact same_kv ht hu hl hz
  | sum s =>
    rw [hc] at hx hy
    cases (show x = .non from hx)
    cases (show y = .non from hy)
    exact .non
  | tog a b =>
    rw [hc] at hx hy
    cases (show x = .non from hx)
    cases (show y = .non from hy)
    exact .non
theorem same_two {G : Hp} {a b : Addr} {x1 x2 y1 y2 : V} {k : Nat} (ha : G a = some (.lst [x1, x2])) (hb : G b = some (.lst [y1, y2])) (h1 : SameD G k x1 y1) (h2 : SameD G k x2 y2) : SameD G (k + 1) (.ref a) (.ref b) := by
  refine .lst ha hb rfl (by show 2 ≤ 1000; decide) fun i x y e1 e2 => ?_
  match i, e1, e2 with
  | 0, rfl, rfl => exact h1
  | 1, rfl, rfl => exact h2
end RK

/-! repr of a list of data at any depth and a dict of integers -/
namespace L2
open PySem PySem.Spec PyProof.Rows
mutual
theorem reads_lists {h : Heap} : ∀ (d : PyData) (u : Value) (as : List Addr), Reads h u d as → d.hasDict = false → ∀ b ∈ as, ∃ o vs n, h.get? b = some o ∧ o.data = .seq vs n
  | .none, _, _, r, _ => by cases r; exact fun _ z => nomatch z
  | .bool _, _, _, r, _ => by cases r; exact fun _ z => nomatch z
  | .int _, _, _, r, _ => by cases r; exact fun _ z => nomatch z
  | .str _, _, _, r, _ => by cases r; exact fun _ z => nomatch z
  | .list ds, _, _, r, e => by
    cases r with
    | list h1 _ h3 h4 =>
      intro b hb
      rcases List.mem_cons.mp hb with q | q
      · subst q
        exact ⟨_, _, _, h1, h3⟩
      · exact reads_listsA ds _ _ h4 (by simpa only [PyData.hasDict] using e) b q
  | .tuple ds, _, _, r, e => by
    cases r with
    | tuple h1 _ h3 h4 => exact reads_listsA ds _ _ h4 (by simpa only [PyData.hasDict] using e)
  | .dict _, _, _, _, e => by simp only [PyData.hasDict] at e; cases e
theorem reads_listsA {h : Heap} : ∀ (ds : List PyData) (us : List Value) (as : List Addr), ReadsAll h us ds as → PyData.hasDictAll ds = false → ∀ b ∈ as, ∃ o vs n, h.get? b = some o ∧ o.data = .seq vs n
  | [], _, _, r, _ => by cases r; exact fun _ z => nomatch z
  | d :: ds, _, _, r, e => by
    cases r with
    | cons h1 h2 =>
      simp only [PyData.hasDictAll, Bool.or_eq_false_iff] at e
      intro b hb
      rcases List.mem_append.mp hb with q | q
      · exact reads_lists d _ _ h1 e.1 b q
      · exact reads_listsA ds _ _ h2 e.2 b q
end
mutual
theorem Dp.noDict {K : PySem.W.Frag} {H : Hp} : ∀ (d : PyData) (v : V), Dp K H v d → d.hasDict = false
  | .none, _, _ => by simp only [PyData.hasDict]
  | .bool _, _, _ => by simp only [PyData.hasDict]
  | .int _, _, _ => by simp only [PyData.hasDict]
  | .str _, _, _ => by simp only [PyData.hasDict]
  | .list ds, _, h => by
    cases h with
    | lst _ ha => simp only [PyData.hasDict]; exact DpAll.noDict ds _ ha
  | .tuple ds, _, h => by
    cases h with
    | tup _ ha => simp only [PyData.hasDict]; exact DpAll.noDict ds _ ha
  | .dict _, _, h => by cases h
theorem DpAll.noDict {K : PySem.W.Frag} {H : Hp} : ∀ (ds : List PyData) (vs : List V), DpAll K H vs ds → PyData.hasDictAll ds = false
  | [], _, _ => by simp only [PyData.hasDictAll]
  | d :: ds, _, h => by
    cases h with
    | cons h1 h2 => simp only [PyData.hasDictAll, Dp.noDict d _ h1, DpAll.noDict ds _ h2, Bool.or_false]
end
def rReprN (K : PySem.W.Frag) : List V → Hp → VK → Prop := fun xs H Q => ∃ (l d : Addr) (x : V) (D : PyData) (kvs : List (Key × V)), xs = [.ref l] ∧ H l = some (.lst [x, .ref d]) ∧ Dp K H x D ∧ H d = some (.dK kvs) ∧ (∀ kv ∈ kvs, ∃ i : Int, kv.2 = .int i) ∧
  (PyData.list [D, dictD kvs]).showable = true ∧ (PyData.list [D, dictD kvs]).shown.length ≤ sizeLine ∧ D.depth ≤ 20 ∧ Q (.str (PyData.list [D, dictD kvs]).shown) H
theorem call_reprN {X : Cx} (quiet : X.A.guards = some []) (hu : X.A.units + 60 < cLine) (mods : ∃ mm, X.base.Ns sysModules mm) : CallR X (.builtin "repr") (rReprN X.K) := by
  intro pins s σ H xs us Q I r h
  obtain ⟨l, d, x, D, kvs, rfl, hl, hD, hd, hint, hshow, hsize, hdep, q⟩ := h
  cases r with
  | cons r1 r2 =>
    cases r2
    cases r1
    obtain ⟨its, rv, ⟨o, n, ho, hc, _, hdat⟩, _⟩ := I.list (SqL.of hl)
    obtain ⟨hlen, hsys, vs, kv, od, es, ep, hod, hex, hdd, hkeys, hpairs, hnd⟩ := I.hok d _ hd
    obtain ⟨k1, k2⟩ := pairs_read (h := s.heap) hpairs kv hint
    have rd : Reads s.heap (.ref d) (dictD kvs) (d :: [] ++ []) := Reads.dict hod hex.1 hdd k1 k2
    cases rv with
    | cons r1 r2 =>
      cases r2 with
      | cons r3 r4 =>
        cases r4
        cases r3
        obtain ⟨as, ra⟩ := Dp.reads I D x _ hD r1
        have all : ReadsAll s.heap [_, .ref d] [D, dictD kvs] (as ++ ((d :: [] ++ []) ++ [])) := .cons ra (.cons rd .nil)
        have whole : Reads s.heap (.ref l) (.list [D, dictD kvs]) (l :: (as ++ ((d :: [] ++ []) ++ []))) := Reads.list ho hc hdat all
        obtain ⟨mm, om, esm, epm, hom, hdm, _⟩ := mods
        have hms : s.heap.get? sysModules = some om := I.bk _ _ hom
        have dep : (PyData.list [D, dictD kvs]).depth ≤ 22 := by
          simp only [PyData.depth, PyData.depthAll, depth_dict]
          omega
        refine repr_of_reads' whole hshow (fun _ hm => ?_) quiet (by omega) (fun _ _ e => e) (fun h' u tk hk => ⟨.str (PyData.list [D, dictD kvs]).shown, H, I.kept fun b o e => hk b o e, ⟨u, rfl⟩, q⟩) hsize
        rcases List.mem_cons.mp hm with e | e
        · rw [← e, hms] at ho
          cases ho
          rw [hdm] at hdat
          cases hdat
        · rcases List.mem_append.mp e with e | e
          · obtain ⟨o2, vs2, n2, h2, h3⟩ := reads_lists D _ _ ra (Dp.noDict D x hD) _ e
            rw [hms] at h2
            cases h2
            rw [hdm] at h3
            cases h3
          · have e2 : sysModules = d := by simpa using e
            rw [e2] at hsys
            simp at hsys
end L2

/-! list(e.values()) of a dict with plain keys -/
namespace L2
open PySem PySem.Spec PyProof.Rows
def tListVals (te : TE) : TE := fun σ H Q => te σ H fun x H1 => ∃ (d : Addr) (kvs : List (Key × V)), x = .ref d ∧ H1 d = some (.dK kvs) ∧ ∀ L, H1 L = none → Q (.ref L) (upd H1 L (.lst (kvs.map (·.2))))
theorem vals_of_kv : ∀ {kvs : List (Key × V)} {xs : List (Key × Value)}, KV kvs xs → Vals (kvs.map (·.2)) (xs.map (·.2))
  | _, _, .nil => .nil
  | _, _, .cons h t => .cons h.2 (vals_of_kv t)
section
variable {X : Cx} {e : Expr} {te : TE} {p apos cpos pos : Pos}
theorem pe_listVals (hc : X.calm = true) (he : PE X e te) (hg : Gl X "list") (hm : X.mg "list" = none) (hv : bootBuiltins "list" = some (.type "list")) (hbase : attributeBase e "values" X.env (eval e X.env) = eval e X.env := by rfl) (hline : (apos.endLine == cpos.line) = true := by rfl)
    (hs : starEach [.Call (.Attribute e "values" apos) [] [] cpos] X.env = (false, eval (.Call (.Attribute e "values" apos) [] [] cpos) X.env) :: starEach [] X.env := by rfl) :
    PE X (.Call (.Name "list" p) [.Call (.Attribute e "values" apos) [] [] cpos] [] pos) (tListVals te) := by
  refine ⟨fun pins s σ H Q I hq => ?_⟩
  refine wpAny_Call_Name_kw (ld_blt I hg hm hv ?_)
  refine PyProof.Rows.callWith_type1 ?_ hs rfl
  rw [hs]
  show wpAny _ _ (spliced ((false, eval (.Call (.Attribute e "values" apos) [] [] cpos) X.env) :: backTo pos (starEach [] X.env))) _ _ s
  refine Calls.spliced_cons ?_
  refine wpAny_Call_method (T := "dict") (id := "dict.values") hbase rfl hline F.plainAttrs_dict F.slot_dict_values F.type_dict_values (thn (he.run pins s σ H _ I hq) fun u s1 ⟨x, H1, I1, rx, d, kvs, ex, hd, q⟩ => ?_)
  subst ex
  obtain rfl : u = Value.ref d := rx
  obtain ⟨small, low, vs, rel, dof⟩ := dk_of I1.hok hd
  obtain ⟨ep, dat⟩ := dof.dictAt
  have I2 : Inv X pins σ H1 { s1 with heap := s1.heap.push { cls := .type "dict_values", data := .fields #[.ref d] } } := I1.kept (t' := s1.toks) fun b ob q => Heap.get?_push_of_some _ q
  refine ⟨dof.typeIs, dof.mapOf.noDict, ?_⟩
  show wpAny _ _ (callWith cpos (.builtin "dict.values") [.ref d] [] []) _ X.xe s1
  refine method_meetsIn F.slot_dict_values F.entry_dict_values rfl (PySem.evalArgs_none ⟨rfl, dof.typeIs, F.args_dict_values_1 _, _, meets_dict_values (mixKind X.prog X.w) d low, ⟨vs, dof⟩, ?_⟩)
  refine Calls.spliced_nil ?_
  have k1 : ∀ b u, s1.heap.get? b = some u → (s1.heap.push { cls := .type "dict_values", data := .fields #[.ref d] }).get? b = some u := fun b u e => Heap.get?_push_of_some _ e
  have dat1 : (s1.heap.push { cls := .type "dict_values", data := .fields #[.ref d] }).DictAt (mixKind X.prog X.w) d vs ep := dat.keep k1
  have hl : kvs.length = vs.length := KV.length rel
  refine PySem.W.kdl_call (PySem.W.kdl_values (r := s1.heap.objs.size) (d := d) (knd := mixKind X.prog X.w) (kvs := vs) (ep := ep)) (I1.ok.hd hc) ⟨⟨_, Heap.get?_push_size _ rfl, rfl, rfl⟩, dat1⟩ (by rw [← hl]; exact small) fun h' tk acc c hk hS hitems => ?_
  have hacc : acc.toList = vs.map (·.2) := by
    refine List.ext_getElem? fun j => ?_
    rw [Array.getElem?_toList, List.getElem?_map]
    cases hx : vs[j]? with
    | none =>
      have hj := List.getElem?_eq_none_iff.mp hx
      rw [Option.map_none]
      exact Array.getElem?_eq_none (by rw [hitems.1]; exact hj)
    | some x =>
      have hj := (List.getElem?_eq_some_iff.mp hx).1
      have hja : j < acc.size := by rw [hitems.1]; exact hj
      rw [Option.map_some, Array.getElem?_eq_getElem hja]
      obtain ⟨k, e⟩ := hitems.2 j _ (Array.getElem?_eq_getElem hja)
      rw [hx] at e
      rw [Option.some.inj e]
  refine ⟨.ref _, upd H1 _ (.lst (kvs.map (·.2))), I2.laid (t' := tk) hk (Nat.le_refl _) ?_, rfl, q _ (I2.hok.fresh (Nat.le_refl _))⟩
  refine ⟨by rw [List.length_map]; exact small, acc.toList, c, by rw [hacc]; exact vals_of_kv rel, ?_⟩
  rw [Array.toArray_toList]
  exact hS
end
end L2

namespace RK
open PySem L2 LamX
theorem pool_short : ∀ z ∈ pool, z.length ≤ 40 ∧ ∀ c ∈ z.cps.toList, c < 16 ^ 8 := by decide +kernel
theorem view_text {os : List Str} {g : Str → Int} (hz : ∀ z ∈ os, z ∈ pool) (hl : os.length ≤ 20) (hb : ∀ z ∈ os, (g z).natAbs < 2 ^ 400) :
    (∀ kv ∈ kvOf os g, ∃ i : Int, kv.2 = .int i) ∧ (dictD (kvOf os g)).showable = true ∧ (dictD (kvOf os g)).shown.length ≤ 30000 := by
  have hk : ∀ kv ∈ kvOf os g, ∃ z, z ∈ os ∧ kv = ((Sum.inr z : Key), V.int (g z)) := fun kv hm => by
    obtain ⟨y, hy, e⟩ := List.mem_map.mp hm
    exact ⟨y, hy, e.symm⟩
  refine ⟨fun kv hm => ?_, ?_, ?_⟩
  · obtain ⟨z, _, rfl⟩ := hk kv hm
    exact ⟨_, rfl⟩
  · unfold dictD
    rw [PyData.showable]
    refine show_kv fun kv hm => ?_
    obtain ⟨z, h, rfl⟩ := hk kv hm
    exact ⟨show_str, show_int (hb z h)⟩
  · unfold dictD
    rw [PyData.shown, shownKv_eq2]
    refine Nat.le_trans (dictText_le (B := 1002) fun t ht => ?_) ?_
    · obtain ⟨kv, hkv, rfl⟩ := List.mem_map.mp ht
      obtain ⟨z, h, rfl⟩ := hk kv hkv
      obtain ⟨h1, h2⟩ := pool_short z (hz z h)
      have q1 := str_short h1 h2
      have q2 := int_short (hb z h)
      rw [strLen_append, strLen_append]
      have : (": " : Str).length = 2 := rfl
      show (PyData.str z).shown.length + 2 + (PyData.int _).shown.length ≤ 1002
      omega
    · rw [List.length_map]
      have : (kvOf os g).length = os.length := List.length_map _
      omega
theorem all_text : ∀ {row : List Str}, (∀ z ∈ row, z ∈ pool) → PyData.showableAll (row.map PyData.str) = true ∧ ((PyData.shownAll (row.map PyData.str)).map (·.length)).sum ≤ 500 * row.length ∧ (PyData.shownAll (row.map PyData.str)).length = row.length ∧ PyData.depthAll (row.map PyData.str) = 0
  | [], _ => ⟨rfl, Nat.le_refl _, rfl, rfl⟩
  | z :: r, h => by
    obtain ⟨i1, i2, i3, i4⟩ := all_text (row := r) fun y hy => h y (List.mem_cons_of_mem _ hy)
    obtain ⟨h1, h2⟩ := pool_short z (h z List.mem_cons_self)
    have q := str_short h1 h2
    simp only [List.map_cons, PyData.showableAll, PyData.shownAll, PyData.depthAll, List.sum_cons, List.length_cons, i1, i3, i4, show_str, Bool.and_self, true_and]
    refine ⟨?_, ?_⟩
    · omega
    · simp only [PyData.depth]
      rfl
theorem dp_all {K : PySem.W.Frag} {H : Hp} : ∀ {row : List Str}, DpAll K H (row.map V.str) (row.map PyData.str)
  | [] => .nil
  | z :: r => .cons (.str z) dp_all
theorem pair_text {D E : PyData} (h1 : D.showable = true) (h2 : E.showable = true) (l1 : D.shown.length ≤ 300000) (l2 : E.shown.length ≤ 30000) : (PyData.list [D, E]).showable = true ∧ (PyData.list [D, E]).shown.length ≤ sizeLine := by
  refine ⟨by simp only [PyData.showable, PyData.showableAll, h1, h2, Bool.and_self], ?_⟩
  have h := listText_len_le [D.shown, E.shown]
  simp only [PyData.shown, PyData.shownAll]
  simp only [List.map_cons, List.map_nil, List.sum_cons, List.sum_nil, List.length_cons, List.length_nil] at h
  have : sizeLine = 16777216 := rfl
  omega
def RowAt (K : PySem.W.Frag) (G : Hp) (v : V) (row : List Str) : Prop := ∃ b k, v = .ref b ∧ SeqAt2 G b (row.map V.str) k ∧ ∃ D : PyData, Dp K G v D ∧ D.showable = true ∧ D.shown.length ≤ 30000 ∧ D.depth ≤ 20
theorem row_lst {K : PySem.W.Frag} {G : Hp} {b : Addr} {row : List Str} (h : G b = some (.lst (row.map V.str))) (hz : ∀ z ∈ row, z ∈ pool) (hl : row.length ≤ 20) : RowAt K G (.ref b) row := by
  obtain ⟨i1, i2, i3, i4⟩ := all_text hz
  refine ⟨b, .list, rfl, .inl ⟨h, rfl⟩, .list (row.map PyData.str), .lst (SqL.of h) dp_all, ?_, ?_, ?_⟩
  · simp only [PyData.showable, i1]
  · have := listText_len_le (PyData.shownAll (row.map PyData.str))
    simp only [PyData.shown]
    omega
  · simp only [PyData.depth, i4]
    omega
theorem row_tup {K : PySem.W.Frag} {G : Hp} {b : Addr} {row : List Str} (h : G b = some (.tup (row.map V.str))) (hz : ∀ z ∈ row, z ∈ pool) (hl : row.length ≤ 20) : RowAt K G (.ref b) row := by
  obtain ⟨i1, i2, i3, i4⟩ := all_text hz
  refine ⟨b, .tup, rfl, .inr ⟨h, rfl⟩, .tuple (row.map PyData.str), .tup (SqT.of h) dp_all, ?_, ?_, ?_⟩
  · simp only [PyData.showable, i1]
  · have := tupleText_len_le (PyData.shownAll (row.map PyData.str))
    simp only [PyData.shown]
    omega
  · simp only [PyData.depth, i4]
    omega
/-! ### gains between two photos -/
theorem strange_all {zs : List Str} : ∀ {l : List Str} {seen : List V}, (∀ z ∈ l, z ∈ zs) → (∀ z ∈ l, V.str z ∉ seen) → l.Nodup → strange zs seen (l.map V.str) = none
  | [], _, _, _, _ => rfl
  | x :: l, seen, h1, h2, h3 => by
    obtain ⟨n1, n2⟩ := List.nodup_cons.mp h3
    rw [List.map_cons, strange_good (show walkB zs (V.str x) = true from decide_eq_true (h1 x List.mem_cons_self)) (h2 x List.mem_cons_self)]
    refine strange_all (fun z hz => h1 z (List.mem_cons_of_mem _ hz)) (fun z hz hm => ?_) n2
    rcases List.mem_append.mp hm with h | h
    · exact h2 z (List.mem_cons_of_mem _ hz) h
    · have := V.str.inj (List.mem_singleton.mp h)
      exact n1 (by rw [← this]; exact hz)
theorem photo_right {zs os : List Str} (hp : os.Perm zs) (hnd : zs.Nodup) : photoB zs (os.map V.str) = true := by
  unfold photoB strangeV
  rw [strange_all (fun z hz => hp.mem_iff.mp hz) (fun z _ => List.not_mem_nil) (hp.nodup_iff.mpr hnd), List.length_map, hp.length_eq, decide_eq_true rfl]
  rfl
theorem photo_good {K : PySem.W.Frag} {CF a : Addr} {zs os : List Str} {k : Kd} {H : Hp} {E : XK} {next : List Str → Prop} (hsq : SeqAt2 H a (os.map V.str) k) (hp : os.Perm zs) (hnd : zs.Nodup) (hzl : ∀ z ∈ zs, z.length ≤ 1000) (hl : zs.length ≤ 1000) (hx : next os) : PhotoT K CF zs (.ref a) H E next := by
  refine ⟨k, hsq.elim (fun e => by rw [e.2]; exact .lst e.1) (fun e => by rw [e.2]; exact .tup e.1), fun hk => ?_, fun _ => ⟨a, os.map V.str, rfl, hsq, by rw [List.length_map, hp.length_eq]; exact hl, fun x hm => ?_, fun hb => absurd ((photo_right hp hnd).symm.trans hb) (fun q => nomatch q), fun _ => ⟨os, rfl, hp, hx⟩⟩⟩
  · rcases hsq with ⟨_, rfl⟩ | ⟨_, rfl⟩ <;> cases hk
  · obtain ⟨z, hz, rfl⟩ := List.mem_map.mp hm
    exact ⟨_, .str (hzl z (hp.mem_iff.mp hz))⟩
/-! ### stands, photos, laps -/
def ButT (a : Addr) (H H' : Hp) : Prop := ∀ b o, b ≠ a → (∀ ps, o ≠ .tbl ps) → H b = some o → H' b = some o
theorem ButT.of {a : Addr} {H H' : Hp} (b : But a H H') : ButT a H H' := fun c o hc _ e => b c o hc e
theorem ButT.ofS {a : Addr} {H H' : Hp} (s : Same H H') : ButT a H H' := fun c o _ _ e => s c o e
theorem ButT.ofE {a : Addr} {H H' : Hp} (s : ExtN H H') : ButT a H H' := fun c o _ n e => s c o e n
theorem ButT.trans {a : Addr} {H H1 H2 : Hp} (x : ButT a H H1) (y : ButT a H1 H2) : ButT a H H2 := fun c o hc n e => y c o hc n (x c o hc n e)
theorem SpAt.extN {H H' : Hp} {a : Addr} {m : Nat} (h : SpAt H a m) (s : ExtN H H') : SpAt H' a m := by
  obtain ⟨o, e, x, y, c, rfl, r⟩ := h
  exact ⟨_, s _ _ e (fun _ z => nomatch z), x, y, c, rfl, r⟩
theorem SpAt.up {H : Hp} {a : Addr} {m n : Nat} (h : SpAt H a m) (e : m ≤ n) : SpAt H a n := let ⟨o, ho, hk⟩ := h; ⟨o, ho, hk.mono e⟩
theorem Tabs.but {T : List (Addr × Str)} {a : Addr} {m : Nat} {H H' : Hp} (t : Tabs T H) (sp : SpAt H a m) (b : But a H H') : Tabs T H' := by
  obtain ⟨ys, ha⟩ := sp.lst
  exact tabs_keep t fun c o n1 n2 e => b c o (fun z => by rw [z, ha] at e; cases e; exact n1 _ rfl) e
theorem nt_l {xs : List V} (ps : Array Value) : HO.lst xs ≠ .tbl ps := fun z => nomatch z
theorem nt_d {xs : List (Key × V)} (ps : Array Value) : HO.dK xs ≠ .tbl ps := fun z => nomatch z
theorem nt_t {xs : List V} (ps : Array Value) : HO.tup xs ≠ .tbl ps := fun z => nomatch z
theorem row_inA {zs : List Str} {rs : List Int} {z : Str} (hl : rs.length = zs.length) (hz : z ∈ zs) : rowG zs rs z ∈ rs := by
  unfold rowG
  have hj := List.idxOf_lt_length_of_mem hz
  rw [List.getD_eq_getElem?_getD, List.getElem?_eq_getElem (by omega)]
  exact List.getElem_mem _
def dataK (k : Kd) (row : List Str) : PyData := match k with
  | .list => .list (row.map PyData.str)
  | _ => .tuple (row.map PyData.str)
theorem dataK_dp {K : PySem.W.Frag} {G : Hp} {b : Addr} {row : List Str} {k : Kd} (h : SeqAt2 G b (row.map V.str) k) : Dp K G (.ref b) (dataK k row) := by
  rcases h with ⟨e, rfl⟩ | ⟨e, rfl⟩
  · exact .lst (SqL.of e) dp_all
  · exact .tup (SqT.of e) dp_all
theorem dataK_text {row : List Str} {k : Kd} (hz : ∀ z ∈ row, z ∈ pool) (hl : row.length ≤ 20) : (dataK k row).showable = true ∧ (dataK k row).shown.length ≤ 30000 ∧ (dataK k row).depth ≤ 20 := by
  obtain ⟨i1, i2, i3, i4⟩ := all_text hz
  unfold dataK
  split
  · refine ⟨?_, ?_, ?_⟩
    · simp only [PyData.showable, i1]
    · have := listText_len_le (PyData.shownAll (row.map PyData.str))
      simp only [PyData.shown]
      omega
    · simp only [PyData.depth, i4]
      omega
  · refine ⟨?_, ?_, ?_⟩
    · simp only [PyData.showable, i1]
    · have := tupleText_len_le (PyData.shownAll (row.map PyData.str))
      simp only [PyData.shown]
      omega
    · simp only [PyData.depth, i4]
      omega
def lapsR (n : Nat) (rs : List Int) : List Int := rs.map fun x => x / (n : Int)
theorem lapsR_len {n : Nat} {rs : List Int} : (lapsR n rs).length = rs.length := List.length_map _
theorem lapsR_big {n : Nat} {rs : List Int} (h0 : 0 < n) (h : ∀ x ∈ rs, x.natAbs < 2 ^ 100) : ∀ x ∈ lapsR n rs, x.natAbs < 2 ^ 101 := fun x hx => by
  obtain ⟨y, hy, rfl⟩ := List.mem_map.mp hx
  have h1 := h y hy
  have h2 : (y / (n : Int)).natAbs ≤ y.natAbs + 1 := by
    have q1 := Int.mul_ediv_add_emod y (n : Int)
    have q2 := Int.emod_nonneg y (show (n : Int) ≠ 0 by omega)
    have q3 := Int.emod_lt_of_pos y (show (0 : Int) < n by omega)
    have q5 : y - n < (n : Int) * (y / (n : Int)) := by omega
    have q4 : (n : Int) * (y / (n : Int)) ≤ y := by omega
    rcases Int.le_total 0 (y / (n : Int)) with p | p
    · have : y / (n : Int) ≤ (n : Int) * (y / (n : Int)) := by
        have := Int.mul_le_mul_of_nonneg_right (show (1 : Int) ≤ n by omega) p
        omega
      omega
    · have h3 : (n : Int) * (y / (n : Int)) ≤ y / (n : Int) := by
        have := Int.mul_le_mul_of_nonpos_right (show (1 : Int) ≤ n by omega) p
        omega
      by_cases hy0 : 0 ≤ y
      · have := Int.ediv_nonneg hy0 (show (0 : Int) ≤ n by omega)
        omega
      · have h4 : y ≤ y / (n : Int) := by
          have := Int.le_ediv_of_mul_le (show (0 : Int) < n by omega) (show y * (n : Int) ≤ y by
            have h := Int.mul_nonneg (show (0 : Int) ≤ -y by omega) (show (0 : Int) ≤ (n : Int) - 1 by omega)
            rw [Int.mul_sub, Int.neg_mul, Int.mul_one] at h
            omega)
          exact this
        omega
  have h5 : (2 : Nat) ^ 101 = 2 ^ 100 + 2 ^ 100 := by decide
  omega
theorem row_lap {zs : List Str} {rs : List Int} {z : Str} (hnd : zs.Nodup) (hl : rs.length = zs.length) (hz : z ∈ zs) : rowG zs (lapsR zs.length rs) z = rowG zs rs z / (zs.length : Int) := by
  obtain ⟨i, hi, rfl⟩ := List.mem_iff_getElem.mp hz
  have hll : (lapsR zs.length rs).length = zs.length := by unfold lapsR; rw [List.length_map, hl]
  rw [row_at hnd hll hi, row_at hnd hl hi]
  exact List.getElem_map _
theorem row_rest {zs : List Str} {rs : List Int} {z : Str} (hnd : zs.Nodup) (h0 : 0 < zs.length) (h : RowOk zs.length rs) (hz : z ∈ zs) : restK (photoR zs rs) z = rowG zs rs z % (zs.length : Int) := by
  have hm := (photoR_perm hnd h0 h).mem_iff.mpr hz
  have hj := List.idxOf_lt_length_of_mem hm
  have hj2 : (photoR zs rs).idxOf z < zs.length := by rw [← photoR_len]; exact hj
  have e := List.getElem_idxOf hj
  obtain ⟨h1, e1, e2⟩ := photoR_get hnd h0 h hj2
  rw [photoR_ix hj, e1] at e
  rw [e] at e2
  exact e2.symm
theorem row_staP {zs ks : List Str} {rs : List Int} (nd : zs.Nodup) (pm : ks.Perm zs) (h : RowOk zs.length rs) : standB zs (kvOf ks (rowG zs rs)) = true := by
  obtain ⟨h1, h2, h3, h4⟩ := h
  refine (Sta.mk' pm ?_ ?_).ok
  · rw [map_row nd h1, h2]
  · have e : (zs.map fun u => rowG zs rs u % (zs.length : Int)) = (zs.map (rowG zs rs)).map fun x => x % (zs.length : Int) := by rw [List.map_map]; rfl
    rw [e, map_row nd h1]
    exact h3
theorem dictB_kv {zs ks : List Str} {g : Str → Int} (pm : ks.Perm zs) : dictB zs (kvOf ks g) = true := by
  unfold dictB
  have hl : (kvOf ks g).length = zs.length := by unfold kvOf; rw [List.length_map, pm.length_eq]
  rw [decide_eq_true hl, Bool.true_and, List.all_eq_true]
  intro z hz
  rw [val_kv (pm.mem_iff.mpr hz)]
  rfl
theorem sum_rangeI : ∀ n : Nat, 2 * ((List.range n).map fun (i : Nat) => (i : Int)).sum = (n : Int) * ((n : Int) - 1)
  | 0 => rfl
  | n + 1 => by
    have ih := sum_rangeI n
    rw [List.range_succ, List.map_append, List.sum_append, Int.mul_add, ih]
    show (n : Int) * ((n : Int) - 1) + 2 * ([((n : Nat) : Int)]).sum = ((n + 1 : Nat) : Int) * (((n + 1 : Nat) : Int) - 1)
    rw [show ([((n : Nat) : Int)]).sum = (n : Int) from by simp]
    rw [show (((n + 1 : Nat) : Int)) = (n : Int) + 1 from rfl, show (n : Int) + 1 - 1 = (n : Int) by omega, Int.mul_sub, Int.add_mul]
    omega
theorem sum_parts {n : Int} : ∀ rs : List Int, rs.sum = n * (rs.map fun x => x / n).sum + (rs.map fun x => x % n).sum
  | [] => by simp
  | x :: r => by
    have ih := sum_parts (n := n) r
    have h := Int.mul_ediv_add_emod x n
    simp only [List.sum_cons, List.map_cons, Int.mul_add]
    omega
theorem perm_sumI {l m : List Int} (h : l.Perm m) : l.sum = m.sum := by
  induction h with
  | nil => rfl
  | cons x _ ih => simp only [List.sum_cons, ih]
  | swap x y l => simp only [List.sum_cons]; omega
  | trans _ _ h1 h2 => exact h1.trans h2
theorem laps_zero {n : Nat} {rs : List Int} (h0 : 0 < n) (h : RowOk n rs) : (lapsR n rs).sum = 0 := by
  have h1 := sum_parts (n := (n : Int)) rs
  have h2 : (rowR n rs).sum = ((List.range n).map fun (i : Nat) => (i : Int)).sum := perm_sumI (rowR_all h0 h)
  have h3 := sum_rangeI n
  have h4 := h.2.1
  have h5 : (rs.map fun x => x % (n : Int)).sum = (rowR n rs).sum := rfl
  have h6 : (rs.map fun x => x / (n : Int)).sum = (lapsR n rs).sum := rfl
  rw [h5, h6, h2] at h1
  have h7 : (n : Int) * (lapsR n rs).sum = 0 := by omega
  rcases Int.mul_eq_zero.mp h7 with q | q
  · omega
  · exact q
theorem laps_back {zs ks : List Str} {rs : List Int} (hnd : zs.Nodup) (h0 : 0 < zs.length) (h : RowOk zs.length rs) (pm : ks.Perm zs) : (kvOf zs fun z => placeOf (kvOf ks (rowG zs (lapsR zs.length rs))) z * nOf zs + restK (photoR zs rs) z) = kvOf zs (rowG zs rs) := kv_congr fun z hz => by
  rw [place_kv (pm.mem_iff.mpr hz), row_lap hnd h.1 hz, row_rest hnd h0 h hz]
  have := Int.mul_ediv_add_emod (rowG zs rs z) (zs.length : Int)
  unfold nOf
  rw [Int.mul_comm] at this
  exact this
theorem laps_of_row {zs ks : List Str} {rs : List Int} (hnd : zs.Nodup) (h : RowOk zs.length rs) (pm : ks.Perm zs) : kvOf zs (lapK zs (kvOf ks (rowG zs rs))) = kvOf zs (rowG zs (lapsR zs.length rs)) := kv_congr fun z hz => by
  unfold lapK nOf
  rw [place_kv (pm.mem_iff.mpr hz), row_lap hnd h.1 hz]
theorem kv_thA {K : PySem.W.Frag} {ks : List Str} {g : Str → Int} {G : Hp} : ∀ kv ∈ kvOf ks g, ∃ kx, Th K G kv.2 kx := fun kv hm => by
  obtain ⟨z, _, rfl⟩ := List.mem_map.mp hm
  exact ⟨_, .int _⟩
theorem stand_goodT {K : PySem.W.Frag} {CS d : Addr} {zs ks : List Str} {g : Str → Int} {G : Hp} {E : XK} {next : Addr → List (Key × V) → Prop} (hd : G d = some (.dK (kvOf ks g))) (hst : standB zs (kvOf ks g) = true) (h : next d (kvOf ks g)) : StandT K CS zs (.ref d) G E next :=
  ⟨_, .dict hd, (fun z => nomatch z), fun _ => ⟨d, _, rfl, hd, kv_thA, fun z => absurd (hst.symm.trans z) (fun q => nomatch q), fun _ => h⟩⟩
section
variable {K : PySem.W.Frag} {C CP CS CF CL CM p t d a : Addr} {TT : List (Addr × Str)} {zs ks os : List Str} {rs : List Int} {g : Str → Int} {G : Hp} {Q : VK} {E : XK} {k : Kd}
theorem photo_ok (hT : Tabs TT G) (hp : PathAt C G p t zs) (hnd : zs.Nodup) (h0 : 0 < zs.length) (h20 : zs.length ≤ 20) (hd : G d = some (.dK (kvOf ks (rowG zs rs)))) (pm : ks.Perm zs) (hro : RowOk zs.length rs)
    (q : ∀ l H', (∀ b o, G b = some o → (∀ ps, o ≠ .tbl ps) → b ≠ l) → H' l = some (.lst ((photoR zs rs).map V.str)) → ExtN G H' → Tabs TT H' → Q (.ref l) H') : spPhotoOf K C CP CS TT [.ref p, .ref d] G Q E :=
  ⟨_, _, rfl, hT, .inr ⟨p, t, zs, rfl, hp, hnd, h0, by omega, stand_goodT hd (row_staP hnd pm hro) fun l H' h1 h2 h3 h4 => q l H' h1 (by rw [h2, photo_row hnd h0 hro fun z hz => place_kv (pm.mem_iff.mpr hz)]) h3 h4⟩⟩
theorem laps_ok (hp : PathAt C G p t zs) (hnd : zs.Nodup) (h0 : 0 < zs.length) (h20 : zs.length ≤ 20) (hd : G d = some (.dK (kvOf ks (rowG zs rs)))) (pm : ks.Perm zs) (hro : RowOk zs.length rs)
    (q : ∀ e H', G e = none → H' e = some (.dK (kvOf zs (rowG zs (lapsR zs.length rs)))) → Same G H' → Q (.ref e) H') : spLapsOf K C CP CS [.ref p, .ref d] G Q E :=
  ⟨_, _, rfl, .inr ⟨p, t, zs, rfl, hp, hnd, h0, by omega, stand_goodT hd (row_staP hnd pm hro) fun e H' h1 h2 h3 => q e H' h1 (by rw [h2, laps_of_row hnd hro pm]) h3⟩⟩
theorem isph_ok (hp : PathAt C G p t zs) (hnd : zs.Nodup) (h0 : 0 < zs.length) (h20 : zs.length ≤ 20) (ha : G a = some (.lst (os.map V.str))) (hpo : os.Perm zs) (hzl : ∀ z ∈ zs, z.length ≤ 1000) (q : ∀ H', Same G H' → Q (.bl true) H') : spIsPhotoP K C CP [.ref p, .ref a] G Q E :=
  ⟨_, _, rfl, .inr ⟨p, t, zs, rfl, hp, hnd, h0, by omega, _, .lst ha, (fun z => nomatch z), fun _ => ⟨a, _, rfl, .inl ⟨ha, rfl⟩, by rw [List.length_map, hpo.length_eq]; omega, fun x hm => by
    obtain ⟨z, hz, rfl⟩ := List.mem_map.mp hm
    exact ⟨_, .str (hzl z (hpo.mem_iff.mp hz))⟩, fun H' s => by rw [photo_right hpo hnd]; exact q H' s⟩⟩⟩
theorem stl_ok (hp : PathAt C G p t zs) (hnd : zs.Nodup) (h0 : 0 < zs.length) (h20 : zs.length ≤ 20) (hsq : SeqAt2 G a (os.map V.str) k) (hpo : os.Perm zs) (hzl : ∀ z ∈ zs, z.length ≤ 1000) (hd : G d = some (.dK (kvOf ks g))) (pm : ks.Perm zs)
    (q0 : (zs.map g).sum ≠ 0 → ∀ H', Same G H' → Q .non H') (q1 : (zs.map g).sum = 0 → ∀ e H', G e = none → H' e = some (.dK (kvOf zs fun z => placeOf (kvOf ks g) z * nOf zs + restK os z)) → Same G H' → Q (.ref e) H') : spStOfLaps K C CP CF CL [.ref p, .ref a, .ref d] G Q E := by
  have hs : zs.map (placeOf (kvOf ks g)) = zs.map g := List.map_congr_left fun z hz => place_kv (pm.mem_iff.mpr hz)
  exact ⟨_, _, _, rfl, .inr ⟨p, t, zs, rfl, hp, hnd, h0, by omega, photo_good hsq hpo hnd hzl (by omega) ⟨_, .dict hd, (fun z => nomatch z), fun _ => ⟨d, _, rfl, hd, kv_thA, fun z => absurd ((dictB_kv pm).symm.trans z) (fun q => nomatch q), fun _ => ⟨fun h => q0 (by rw [← hs]; exact h), fun h => q1 (by rw [← hs]; exact h)⟩⟩⟩⟩⟩
theorem stl_any (hp : PathAt C G p t zs) (hnd : zs.Nodup) (h0 : 0 < zs.length) (h20 : zs.length ≤ 20) (hsq : SeqAt2 G a (os.map V.str) k) (hpo : os.Perm zs) (hzl : ∀ z ∈ zs, z.length ≤ 1000) (hd : G d = some (.dK (kvOf ks g))) (pm : ks.Perm zs)
    (q : ∀ v H', Same G H' → ((!decide (v = .non)) = decide (V.int (zs.map g).sum = V.int 0)) → Q v H') : spStOfLaps K C CP CF CL [.ref p, .ref a, .ref d] G Q E :=
  stl_ok hp hnd h0 h20 hsq hpo hzl hd pm (fun hs H' s => q .non H' s (by rw [decide_eq_false fun z => hs (V.int.inj z)]; rfl)) fun hs e H' _ _ s => q (.ref e) H' s (by rw [hs]; rfl)
theorem turned_ok {i : Nat} (hp : PathAt C G p t zs) (hnd : zs.Nodup) (h0 : 0 < zs.length) (h20 : zs.length ≤ 20) (hsq : SeqAt2 G a (os.map V.str) k) (hpo : os.Perm zs) (hzl : ∀ z ∈ zs, z.length ≤ 1000) (hi : i < zs.length)
    (q : ∀ l H', G l = none → H' l = some (.lst ((os.drop i ++ os.take i).map V.str)) → Same G H' → Q (.ref l) H') : spPhotoTurned K C CP CF CM [.ref p, .ref a, .int (i : Nat)] G Q E :=
  ⟨_, _, _, rfl, .inr ⟨p, t, zs, rfl, hp, hnd, h0, by omega, photo_good hsq hpo hnd hzl (by omega) ⟨_, .int _, fun z => absurd (show manyB zs (.int (i : Nat)) = true by
    show (decide ((0 : Int) ≤ (i : Int)) && decide ((i : Int) < (zs.length : Int))) = true
    rw [decide_eq_true (by omega), decide_eq_true (by omega)]
    rfl) (by rw [z]; exact fun q => nomatch q), fun j e hj l H' h1 h2 h3 => by
      have : i = j := by have := V.int.inj e; omega
      subst this
      exact q l H' h1 h2 h3⟩⟩⟩
end
def spStandsR (TT : List (Addr × Str)) : Sp := fun vs H Q _ => ∃ (a : Addr) (n m : Nat), vs = [.ref a, .int n] ∧ 2 ≤ n ∧ n ≤ 20 ∧ SpAt H a m ∧ m < 700000000 ∧ Tabs TT H ∧ ∀ H', SpAt H' a (m + 20000) → ButT a H H' → Tabs TT H' → Q (.bl true) H'
section
variable {P : Program} {w : World} {K : PySem.W.Frag} {mg : Str → Option Value} {base : Heap} {C CP CS CF CL CM : Addr} {TT : List (Addr × Str)}
theorem scStandsR : FnScope ["source", "many", "names", "far", "path", "rows", "row", "stand", "handed", "was", "due", "found", "passed", "told", "more", "is_one", "again", "at", "turned", "k", "place"] ["source", "many"] (defScope sStandsR) := ⟨rfl, rfl, rfl, by decide +kernel, rfl, by decide +kernel, by decide +kernel⟩
theorem ok_standsR {f fQ fT fD fZ fG fH fU fV fY fJ fI fA fO fN fR : Addr} {fd fdQ fdT fdD fdZ fdG fdH fdU fdV fdY fdJ fdI fdA fdO fdN fdR : FuncData} (F : Fun K "_law_stands_right" "_law_stands_right" sStandsR f fd) (B : B0 K mg) (zrepr : mg "repr" = none) (zsum : mg "sum" = none) (mods : ∃ mm, base.Ns sysModules mm)
    (GQ : FnOk P w K mg base CX0 5 fQ fdQ ["found", "wanted"] (spSame 4)) (bQ : Binds K fdQ ["found", "wanted"] []) (gQ : mg "_law_same" = some (.ref fQ)) (kQ9 : PySem.W.keepIn K (.ref fQ) = true)
    (GT : FnOk P w K mg base (L2.CX P w) 5 fT fdT ["path", "photo", "many"] (spPhotoTurned K C CP CF CM)) (bT : Binds K fdT ["path", "photo", "many"] []) (gT : mg "photo_turned" = some (.ref fT)) (kT9 : PySem.W.keepIn K (.ref fT) = true)
    (cT : KBn K fdT ["path", "photo", "many"] 0 ["many", "photo", "path"] (fun us ws => ws.reverse) (fun vs zs => zs.reverse))
    (GD : FnOk P w K mg base CX0 1 fD fdD ["source", "many"] spDraw) (bD : Binds K fdD ["source", "many"] []) (gD : mg "_law_draw" = some (.ref fD)) (kD9 : PySem.W.keepIn K (.ref fD) = true)
    (GZ : FnOk P w K mg base (L2.CX P w) 5 fZ fdZ ["path", "photo", "laps"] (spStOfLaps K C CP CF CL)) (bZ : Binds K fdZ ["path", "photo", "laps"] []) (gZ : mg "stand_of_laps" = some (.ref fZ)) (kZ9 : PySem.W.keepIn K (.ref fZ) = true)
    (cZ : KBn K fdZ ["path", "photo", "laps"] 0 ["laps", "photo", "path"] (fun us ws => ws.reverse) (fun vs zs => zs.reverse))
    (GG : FnOk P w K mg base CX0 2 fG fdG ["source", "some"] spPick) (bG : Binds K fdG ["source", "some"] []) (gG : mg "_law_pick" = some (.ref fG)) (kG9 : PySem.W.keepIn K (.ref fG) = true)
    (GH : FnOk P w K mg base CX0 3 fH fdH ["source", "thing"] spHandK) (bH : Binds K fdH ["source", "thing"] []) (gH : mg "_law_w_handed" = some (.ref fH)) (kH9 : PySem.W.keepIn K (.ref fH) = true)
    (GU : FnOk P w K mg base (L2.CX P w) 5 fU fdU ["path", "stand"] (spPhotoOf K C CP CS TT)) (bU : Binds K fdU ["path", "stand"] []) (gU : mg "photo_of" = some (.ref fU)) (kU9 : PySem.W.keepIn K (.ref fU) = true)
    (cU : KBn K fdU ["path", "stand"] 0 ["stand", "path"] (fun us ws => ws.reverse) (fun vs zs => zs.reverse))
    (GV : FnOk P w K mg base (L2.CX P w) 5 fV fdV ["path", "stand"] (spLapsOf K C CP CS)) (bV : Binds K fdV ["path", "stand"] []) (gV : mg "laps_of" = some (.ref fV)) (kV9 : PySem.W.keepIn K (.ref fV) = true)
    (cV : KBn K fdV ["path", "stand"] 0 ["stand", "path"] (fun us ws => ws.reverse) (fun vs zs => zs.reverse))
    (GY : FnOk P w K mg base (L2.CX P w) 5 fY fdY ["path", "thing"] (spIsPhotoP K C CP)) (bY : Binds K fdY ["path", "thing"] []) (gY : mg "is_photo" = some (.ref fY)) (kY9 : PySem.W.keepIn K (.ref fY) = true)
    (GJ : FnOk P w K mg base CX0 1 fJ fdJ ["names", "row"] spWPhoto) (bJ : Binds K fdJ ["names", "row"] []) (gJ : mg "_law_w_photo" = some (.ref fJ)) (kJ9 : PySem.W.keepIn K (.ref fJ) = true)
    (GI : FnOk P w K mg base CX0 1 fI fdI ["names", "row"] spWDict) (bI : Binds K fdI ["names", "row"] []) (gI : mg "_law_w_dict" = some (.ref fI)) (kI9 : PySem.W.keepIn K (.ref fI) = true)
    (GA : FnOk P w K mg base CX0 4 fA fdA ["source", "names"] (spWPath C)) (bA : Binds K fdA ["source", "names"] []) (gA : mg "_law_w_path" = some (.ref fA)) (kA9 : PySem.W.keepIn K (.ref fA) = true)
    (GO : FnOk P w K mg base CX0 3 fO fdO ["source", "many", "far"] spWPlaces) (bO : Binds K fdO ["source", "many", "far"] []) (gO : mg "_law_w_places" = some (.ref fO)) (kO9 : PySem.W.keepIn K (.ref fO) = true)
    (GN : FnOk P w K mg base CX0 3 fN fdN ["source", "many"] spNames) (bN : Binds K fdN ["source", "many"] []) (gN : mg "_law_w_names" = some (.ref fN)) (kN9 : PySem.W.keepIn K (.ref fN) = true)
    (GR : FnOk P w K mg base CX0 3 fR fdR ["source"] spWFar) (bR : Binds K fdR ["source"] []) (gR : mg "_law_w_far" = some (.ref fR)) (kR9 : PySem.W.keepIn K (.ref fR) = true) :
    FnG P w K mg base CX0 6 f fd ["source", "many"] (spStandsR TT) := by
  refine F.okG scStandsR (fun vs H Q E h => ?_) (fun cdv A outer s H vs Q E hr quiet h => ?_)
  · obtain ⟨a, n, m, rfl, _⟩ := h
    rfl
  · obtain ⟨a, n, m, rfl, h2, h20, hsp, hm, hT, q⟩ := h
    have hu := hu_of hr
    have hr1 : Room 1 _ := hr.mono (by decide)
    have hr2 : Room 2 _ := hr.mono (by decide)
    have hr3 : Room 3 _ := hr.mono (by decide)
    have hr4 : Room 4 _ := hr.mono (by decide)
    have hr5 : Room 5 _ := hr.mono (by decide)
    have hu40 : _ + 40 < cLine := Nat.lt_of_le_of_lt (Nat.add_le_add_left (by decide : 40 ≤ 64) _) hr.units
    have hu60 : _ + 60 < cLine := Nat.lt_of_le_of_lt (Nat.add_le_add_left (by decide : 60 ≤ 64) _) hr.units
    refine ⟨_, pss_cons (ps_asg (pe_tup (pa_cons (pe_call GN hr3 (by rfl) gN kN9 bN .nil pass0 (pa_cons (pv 0) (pa_cons (pv 1) pa_nil))) (pa_cons (pe_call GR hr3 (by rfl) gR kR9 bR .nil pass0 (pa_cons (pv 0) pa_nil)) pa_nil))) (pg_tup rfl (pgs_cons (pg_name (i := 2) scStandsR.nd rfl (Or.inl rfl)) (pgs_cons (pg_name (i := 3) scStandsR.nd rfl (Or.inr rfl)) pgs_nil))))
      (pss_cons (ps_par (i := 4) (j := 5) rfl scStandsR.nd rfl rfl (by decide) rfl rfl (pa_cons (pe_call GA hr4 (by rfl) gA kA9 bA .nil pass0 (pa_cons (pv 0) (pa_cons (pv 2) pa_nil))) (pa_cons (pe_lc (te := (tCall spWPlaces [] E0 (tCons (tVar 0) (tCons (tVar 1) (tCons (tVar 3) tNil))))) (own := [("k", 19)]) (g := (gName 19)) (tt := tYes) rfl scStandsR.nd (pi_range1 (by rfl) B.range (pa_cons pe_int pa_nil)) (blkOk_by (N := ["source", "many", "names", "far", "path", "rows", "row", "stand", "handed", "was", "due", "found", "passed", "told", "more", "is_one", "again", "at", "turned", "k", "place"]) (sc := defScope sStandsR) (by decide +kernel))
          (fun _ _ _ _ _ => (pg_name (i := 19) scStandsR.nd rfl (Or.inl rfl))) (fun _ _ _ _ _ => pts_nil) (fun _ _ _ _ _ => by exact (pe_call GO hr3 (by rfl) gO kO9 bO .nil pass0 (pa_cons (pv 0) (pa_cons (pv 1) (pa_cons (pv 3) pa_nil)))))) pa_nil)) (by rfl))
      (pss_cons (ps_for PassesOwn.never rfl (pi_tup (pe_tup (pa_cons (pe_ix ix_list (pv 5) pe_int (fun _ _ => rfl)) (pa_cons (pe_ix ix_list (pv 5) pe_int (fun _ _ => rfl)) (pa_cons (pe_ix ix_list (pv 5) pe_int (fun _ _ => rfl)) pa_nil))))) (pg_name (i := 6) scStandsR.nd rfl (Or.inl rfl))
        (pss_cons (ps_set (i := 7) scStandsR.nd rfl (Or.inl rfl) (pe_call GI hr1 (by rfl) gI kI9 bI .nil pass0 (pa_cons (pv 2) (pa_cons (pv 6) pa_nil))))
      (pss_cons (ps_set (i := 8) scStandsR.nd rfl (Or.inl rfl) (pe_call GH hr3 (by rfl) gH kH9 bH .nil pass0 (pa_cons (pv 0) (pa_cons (pv 7) pa_nil))))
      (pss_cons (ps_par (i := 9) (j := 10) rfl scStandsR.nd rfl rfl (by decide) rfl rfl (pa_cons (pe_callB (call_reprD quiet hu40) (by rfl) zrepr (by decide +kernel) (pa_cons (pv 8) pa_nil)) (pa_cons (pe_lst (pa_cons (pe_call GJ hr1 (by rfl) gJ kJ9 bJ .nil pass0 (pa_cons (pv 2) (pa_cons (pv 6) pa_nil))) (pa_cons (pe_call GI hr1 (by rfl) gI kI9 bI .nil pass0 (pa_cons (pv 2) (pa_cons (pe_lc (te := (tOp (rI CDiv fun i j => .int (i / j)) (tVar 20) (tVar 1))) (own := [("place", 20)]) (g := (gName 20)) (tt := tYes) rfl scStandsR.nd (pi_list (pv 6)) (blkOk_by (N := ["source", "many", "names", "far", "path", "rows", "row", "stand", "handed", "was", "due", "found", "passed", "told", "more", "is_one", "again", "at", "turned", "k", "place"]) (sc := defScope sStandsR) (by decide +kernel))
          (fun _ _ _ _ _ => (pg_name (i := 20) scStandsR.nd rfl (Or.inl rfl))) (fun _ _ _ _ _ => pts_nil) (fun _ _ _ _ _ => by exact (pe_op op_fdiv (pv 20) (pv 1)))) pa_nil))) pa_nil))) pa_nil)) (by rfl))
      (pss_cons (ps_set (i := 11) scStandsR.nd rfl (Or.inl rfl) (pe_lst (pa_cons (pe_call GU hr5 (by rfl) gU kU9 bU .nil passL (pa_cons (pv 4) (pa_cons (pv 8) pa_nil))) (pa_cons (pe_call GV hr5 (by rfl) gV kV9 bV .nil passL (pa_cons (pv 4) (pa_cons (pv 8) pa_nil))) pa_nil))))
      (pss_cons (ps_if (PW.pt (pw_or (pt_not (pt_val (pe_call GQ hr5 (by rfl) gQ kQ9 bQ .nil pass0 (pa_cons (pv 11) (pa_cons (pv 10) pa_nil))))) (pw_or (pt_cmpR op_ne (pe_callB (call_reprD quiet hu40) (by rfl) zrepr (by decide +kernel) (pa_cons (pv 8) pa_nil)) (pv 9) (nomark _)) (pw_or1 (pt_cmpR op_isnot_bl (pe_call GY hr5 (by rfl) gY kY9 bY .nil passL (pa_cons (pv 4) (pa_cons (pe_ix ix_list (pv 11) pe_int (fun _ _ => rfl)) pa_nil))) pe_bl (nomark _)))))) (pss_one (ps_ret pe_bl)) (pss_nil))
      (pss_cons (ps_expr (pe_bm0 PySem.F.plainAttrs_list PySem.F.slot_list_reverse PySem.F.type_list_reverse mt_reverse (pe_ix ix_list (pv 11) pe_int (fun _ _ => rfl))))
      (pss_cons (ps_expr (pe_dclear (pe_ix ix_list (pv 11) pe_int (fun _ _ => rfl))))
      (pss_cons (ps_if (pt_not (pt_val (pe_call GQ hr5 (by rfl) gQ kQ9 bQ .nil pass0 (pa_cons (pe_lst (pa_cons (pe_callK0 GU hr5 (by rfl) gU kU9 cU passL (pk_cons (pv 8) (pk_cons (pv 4) pk_nil))) (pa_cons (pe_callK0 GV hr5 (by rfl) gV kV9 cV passL (pk_cons (pv 8) (pk_cons (pv 4) pk_nil))) pa_nil))) (pa_cons (pv 10) pa_nil))))) (pss_one (ps_ret pe_bl)) (pss_nil))
      (pss_cons (ps_set (i := 12) scStandsR.nd rfl (Or.inl rfl) (pe_lst (pa_cons (pe_call GG hr2 (by rfl) gG kG9 bG .nil pass0 (pa_cons (pv 0) (pa_cons (pe_lst (pa_cons (pe_callTy call_list_of (by rfl) B.list (by decide +kernel) (pa_cons (pe_ix ix_list (pv 10) pe_int (fun _ _ => rfl)) pa_nil)) (pa_cons (pe_callTy call_tuple_of (by rfl) B.tuple (by decide +kernel) (pa_cons (pe_ix ix_list (pv 10) pe_int (fun _ _ => rfl)) pa_nil)) pa_nil))) pa_nil))) (pa_cons (pe_call GH hr3 (by rfl) gH kH9 bH .nil pass0 (pa_cons (pv 0) (pa_cons (pe_ix ix_list (pv 10) pe_int (fun _ _ => rfl)) pa_nil))) pa_nil))))
      (pss_cons (ps_par (i := 9) (j := 13) rfl scStandsR.nd rfl rfl (by decide) rfl rfl (pa_cons (pe_callB (call_reprN quiet hu60 mods) (by rfl) zrepr (by decide +kernel) (pa_cons (pv 12) pa_nil)) (pa_cons (pe_call GZ hr5 (by rfl) gZ kZ9 bZ .nil passL (pa_cons (pv 4) (pa_cons (pe_ix ix_list (pv 12) pe_int (fun _ _ => rfl)) (pa_cons (pe_ix ix_list (pv 12) pe_int (fun _ _ => rfl)) pa_nil)))) pa_nil)) (by rfl))
      (pss_cons (ps_if (PW.pt (pw_or (pt_not (pt_val (pe_call GQ hr5 (by rfl) gQ kQ9 bQ .nil pass0 (pa_cons (pv 13) (pa_cons (pv 7) pa_nil))))) (pw_or1 (pt_cmpR op_ne (pe_callB (call_reprN quiet hu60 mods) (by rfl) zrepr (by decide +kernel) (pa_cons (pv 12) pa_nil)) (pv 9) (nomark _))))) (pss_one (ps_ret pe_bl)) (pss_nil))
      (pss_cons (ps_expr (pe_dclear (pv 13)))
      (pss_cons (ps_set (i := 14) scStandsR.nd rfl (Or.inl rfl) (pe_callTy call_dictD (by rfl) B.dict (by decide +kernel) (pa_cons (pe_ix ix_list (pv 10) pe_int (fun _ _ => rfl)) pa_nil)))
      (pss_cons (ps_dput hu (pv 14) (pe_call GG hr2 (by rfl) gG kG9 bG .nil pass0 (pa_cons (pv 0) (pa_cons (pv 2) pa_nil))) (pe_op op_sub (pe_call GD hr1 (by rfl) gD kD9 bD .nil pass0 (pa_cons (pv 0) (pa_cons pe_int pa_nil))) pe_int) rfl)
      (pss_cons (ps_set (i := 15) scStandsR.nd rfl (Or.inl rfl) (pe_cmpR op_eq (pe_sumVals rfl (by rfl) zsum (pv 14)) pe_int (nomark _)))
      (pss_cons (ps_set (i := 16) scStandsR.nd rfl (Or.inl rfl) (pe_callK0 GZ hr5 (by rfl) gZ kZ9 cZ passL (pk_cons (pv 14) (pk_cons (pe_ix ix_list (pv 12) pe_int (fun _ _ => rfl)) (pk_cons (pv 4) pk_nil)))))
      (pss_cons (ps_if (pt_cmpR op_ne (pe_cmpR op_notN (pv 16) pe_non (nomark _)) (pv 15) (nomark _)) (pss_one (ps_ret pe_bl)) (pss_nil))
      (pss_cons (ps_set (i := 17) scStandsR.nd rfl (Or.inl rfl) (pe_call GD hr1 (by rfl) gD kD9 bD .nil pass0 (pa_cons (pv 0) (pa_cons (pv 1) pa_nil))))
      (pss_cons (ps_set (i := 18) scStandsR.nd rfl (Or.inl rfl) (pe_lst (pa_cons (pe_call GT hr5 (by rfl) gT kT9 bT .nil passL (pa_cons (pv 4) (pa_cons (pe_ix ix_list (pv 12) pe_int (fun _ _ => rfl)) (pa_cons (pv 17) pa_nil)))) (pa_cons (pe_callK0 GT hr5 (by rfl) gT kT9 cT passL (pk_cons pe_int (pk_cons (pe_ix ix_list (pv 12) pe_int (fun _ _ => rfl)) (pk_cons (pv 4) pk_nil)))) pa_nil))))
      (pss_cons (ps_if (pt_not (pt_val (pe_call GQ hr5 (by rfl) gQ kQ9 bQ .nil pass0 (pa_cons (pv 18) (pa_cons (pe_lst (pa_cons (pe_op op_cat (pe_slice sl_list (pe_ix ix_list (pv 10) pe_int (fun _ _ => rfl)) (po_some (pv 17)) po_none) (pe_slice sl_list (pe_ix ix_list (pv 10) pe_int (fun _ _ => rfl)) po_none (po_some (pv 17)))) (pa_cons (pe_ix ix_list (pv 10) pe_int (fun _ _ => rfl)) pa_nil))) pa_nil))))) (pss_one (ps_ret pe_bl)) (pss_nil))
      (pss_cons (ps_expr (pe_bm0 PySem.F.plainAttrs_list PySem.F.slot_list_clear PySem.F.type_list_clear mt_clear (pe_ix ix_list (pv 18) pe_int (fun _ _ => rfl))))
      (pss_one (ps_if (pt_cmpR op_ne (pe_callB (call_reprN quiet hu60 mods) (by rfl) zrepr (by decide +kernel) (pa_cons (pv 12) pa_nil)) (pv 9) (nomark _)) (pss_one (ps_ret pe_bl)) (pss_nil)))))))))))))))))))))))))
      (pss_one (ps_ret pe_bl)))), ?_⟩
    -- names, far
    refine ⟨_, rfl, _, rfl, a, _, m, rfl, h20, hsp, by omega, fun nn zs H1 hnd hpool hlen hn0 hn1 sp1 b1 => ?_⟩
    subst hlen
    have han : a ≠ nn := fun e => hsp.ne (by rw [e]; exact hn0)
    have hnm : Nm zs := fun z hz => pool_names z (hpool z hz)
    have hzl : ∀ z ∈ zs, z.length ≤ 1000 := fun z hz => pool_len z (hpool z hz)
    have hl : zs.length ≤ 1000 := by omega
    have h0 : 0 < zs.length := by omega
    refine ⟨_, rfl, a, m + 20, rfl, sp1, by omega, fun N H2 hN sp2 b2 => ?_⟩
    have hn2 := b2 _ _ (Ne.symm han) hn1
    refine ⟨by show 2 ≤ sizeLine; decide, fun T hT0 => ?_⟩
    generalize hE : upd H2 T _ = H3
    have sH3 : Same H2 H3 := hE ▸ same_upd hT0
    have eT := congrFun hE.symm T
    rw [upd_same] at eT
    clear hE
    refine ⟨T, _, rfl, SqT.of eT, rfl, _, _, rfl, _, _, rfl, rfl, ?_⟩
    have hn3 := sH3 _ _ hn2
    have sp3 := sp2.same sH3
    -- path, rows
    refine ⟨_, rfl, _, rfl, a, nn, zs, m + 20 + 1, rfl, han, sp3, by omega, hn3, hnd, hnm, hzl, by omega, hl, fun p t H4 hpt hpa hta sp4 b4 => ?_⟩
    have hn4 := b4 _ _ (Ne.symm han) hn3
    refine ⟨2, rfl, by decide, by decide, fun D hD => ?_⟩
    have hDa : D ≠ a := fun e => sp4.ne (by rw [← e]; exact hD)
    refine lc_it (walk_range (lo := 0) (n := 2)) (fun i G => ∃ ps : List Addr, ps.length = i ∧ G D = some (.lst (ps.map V.ref)) ∧ (∀ r ∈ ps, r ≠ a ∧ r ≠ D ∧ ∃ rs, G r = some (.lst (rs.map V.int)) ∧ RowOk zs.length rs) ∧ SpAt G a (m + 22 + 100 * i) ∧ But a H4 G)
      ⟨[], rfl, upd_same, (fun _ z => nomatch z), sp4.same (same_upd hD), Same.but (same_upd hD)⟩ (fun _ _ _ _ => True.intro) ?_ ?_
    · rintro i x G G' hi ⟨ps, hps, hacc, hrows, spG, bG⟩ ⟨rfl, rfl⟩
      refine ⟨rfl, tyes ?_⟩
      refine ⟨_, rfl, _, rfl, _, rfl, a, zs.length, N, _, rfl, by omega, h20, hN, spG, by omega, fun r rs G2 hr0 hr1 hro sp2 b2 => ?_⟩
      have hra : r ≠ a := fun e => spG.ne (by rw [← e]; exact hr0)
      have hrD : r ≠ D := fun e => by rw [e, hacc] at hr0; cases hr0
      refine ⟨_, b2 _ _ hDa hacc, ?_, ps ++ [r], by rw [List.length_append, hps]; rfl, by rw [upd_same, List.map_append]; rfl, fun r' hr' => ?_, ?_, fun b u hb hu => ?_⟩
      · rw [List.length_map, hps]
        exact Nat.lt_trans hi (by decide)
      · rcases List.mem_append.mp hr' with hr' | hr'
        · obtain ⟨k1, kD, rs', k2, k3⟩ := hrows r' hr'
          exact ⟨k1, kD, rs', by rw [upd_ne kD]; exact b2 _ _ k1 k2, k3⟩
        · rw [List.mem_singleton.mp hr']
          exact ⟨hra, hrD, rs, by rw [upd_ne hrD]; exact hr1, hro⟩
      · obtain ⟨o, ho, hk⟩ := sp2
        exact ⟨o, by rw [upd_ne (Ne.symm hDa)]; exact ho, hk.mono (by omega)⟩
      · rw [upd_ne (ne_of_none hu hD)]
        exact b2 _ _ hb (bG _ _ hb hu)
    rintro G5 ⟨ps, hps, hacc, hrows, sp5, b5⟩
    obtain ⟨r0, r1, rfl⟩ : ∃ r0 r1, ps = [r0, r1] := by
      match ps, hps with
      | [x, y], _ => exact ⟨x, y, rfl⟩
    have keepP : ∀ {G G' : Hp}, ButT a G G' → PathAt C G p t zs → PathAt C G' p t zs := fun b hp => ⟨let ⟨dx, e⟩ := hp.ob; ⟨dx, b _ _ hpa (fun _ z => nomatch z) e⟩, b _ _ hta (fun _ z => nomatch z) hp.tu⟩
    have hn5 := b5 _ _ (Ne.symm han) hn4
    have b05 : But a H G5 := b1.trans (b2.trans ((Same.but sH3).trans (b4.trans b5)))
    have t5 : Tabs TT G5 := Tabs.but hT hsp b05
    refine st_nil ⟨_, _, rfl, ?_⟩
    -- three rows
    refine ⟨_, rfl, D, _, 0, _, rfl, rfl, SqL.of hacc, (show atI _ ((0 : Nat) : Int) = _ from atI_nat rfl), _, rfl, D, _, 1, _, rfl, rfl, SqL.of hacc, (show atI _ ((1 : Nat) : Int) = _ from atI_nat rfl), _, rfl, D, _, 0, _, rfl, rfl, SqL.of hacc, (show atI _ ((0 : Nat) : Int) = _ from atI_nat rfl), by show 3 ≤ sizeLine; decide, fun U hU => ?_⟩
    generalize hE : upd G5 U _ = G6
    have sG6 : Same G5 G6 := hE ▸ same_upd hU
    have eU := congrFun hE.symm U
    rw [upd_same] at eU
    clear hE
    replace eU : G6 U = some (.tup [V.ref r0, .ref r1, .ref r0]) := eU
    have hUa : U ≠ a := fun z => sp5.ne (by rw [← z]; exact hU)
    have hn6 := sG6 _ _ hn5
    have hp6 := (keepP (ButT.of b5) hpt).same sG6
    have sp6 := sp5.same sG6
    have rowAt : ∀ v ∈ [V.ref r0, .ref r1, .ref r0], ∃ (r : Addr) (rs : List Int), v = .ref r ∧ r ≠ a ∧ G6 r = some (.lst (rs.map V.int)) ∧ RowOk zs.length rs := fun v hv => by
      obtain ⟨k1, _, rs1, k2, k3⟩ := hrows r0 (by simp)
      obtain ⟨j1, _, rs2, j2, j3⟩ := hrows r1 (by simp)
      simp only [List.mem_cons, List.not_mem_nil, or_false] at hv
      rcases hv with rfl | rfl | rfl
      · exact ⟨r0, rs1, rfl, k1, sG6 _ _ k2, k3⟩
      · exact ⟨r1, rs2, rfl, j1, sG6 _ _ j2, j3⟩
      · exact ⟨r0, rs1, rfl, k1, sG6 _ _ k2, k3⟩
    refine ⟨U, rfl, ⟨_, SqT.of eU⟩, ?_⟩
    refine for_tup (xs := [V.ref r0, .ref r1, .ref r0]) (fun i σ G => ∃ w6 w7 w8 w9 w10 w11 w12 w13 w14 w15 w16 w17 w18, σ = [some (.ref a), some (.int (zs.length : Nat)), some (.ref nn), some (.int N), some (.ref p), some (.ref D), w6, w7, w8, w9, w10, w11, w12, w13, w14, w15, w16, w17, w18, none, none] ∧ SpAt G a (m + 300 + 5000 * i) ∧ ButT a G6 G ∧ Tabs TT G)
      ⟨none, none, none, none, none, none, none, none, none, none, none, none, none, rfl, sp6.up (by omega), fun _ _ _ _ e => e, t5.ext sG6⟩ (fun i σ G _ h => by
        obtain ⟨w6, w7, w8, w9, w10, w11, w12, w13, w14, w15, w16, w17, w18, _, _, b, _⟩ := h
        exact SqT.of (b _ _ hUa nt_t eU)) ?_ ?_
    rotate_left
    · rintro σ G ⟨w6, w7, w8, w9, w10, w11, w12, w13, w14, w15, w16, w17, w18, rfl, spG, bG, tG⟩
      refine q G (spG.up (by show m + 300 + 5000 * 3 ≤ _; omega)) (fun b o hb nt e => bG _ _ hb nt (sG6 _ _ (b05 _ _ hb e))) tG
    rintro i v σ G hv ⟨w6, w7, w8, w9, w10, w11, w12, w13, w14, w15, w16, w17, w18, rfl, spG, bG, tG⟩
    have hi3 : i < 3 := (List.getElem?_eq_some_iff.mp hv).1
    obtain ⟨r, rs, rfl, hra, hr6, hro⟩ := rowAt v (List.mem_of_getElem? hv)
    have hrG := bG _ _ hra nt_l hr6
    have hnG := bG _ _ (Ne.symm han) nt_l hn6
    have hpG := keepP bG hp6
    have hlr : rs.length = zs.length := hro.1
    have hll : (zs.map V.str).length = zs.length := List.length_map _
    -- stand, handed
    refine st_name ?_
    refine ⟨_, rfl, _, rfl, nn, r, zs, rs, rfl, hnG, hrG, hlr, hnd, hl, fun d0 A1 hd00 hd01 s1 => ?_⟩
    have had0 : a ≠ d0 := fun z => spG.ne (by rw [z]; exact hd00)
    refine st_name ?_
    refine ⟨_, rfl, _, rfl, a, d0, zs, rowG zs rs, _, rfl, had0, spG.same s1, by omega, hd01, hnd, hl, fun hh ks A2 hh0 hh1 pm hha spA2 b12 => ?_⟩
    refine st_name ?_
    have bA2 : But a G A2 := (Same.but s1).trans b12
    have tA2 := Tabs.but tG spG bA2
    have hnA2 := bA2 _ _ (Ne.symm han) hnG
    have hrA2 := bA2 _ _ hra hrG
    have hdA2 := b12 _ _ (Ne.symm had0) hd01
    have hpA2 := keepP (ButT.of bA2) hpG
    -- was, due
    have fixk : ∀ z ∈ ks, z ∈ zs := fun z hz => pm.mem_iff.mp hz
    have bigr : ∀ x ∈ rs, x.natAbs < 2 ^ 400 := fun x hx => Nat.lt_of_lt_of_le (hro.2.2.2 x hx) (Nat.pow_le_pow_right (by decide) (by decide : 100 ≤ 400))
    obtain ⟨t1, t2, t3⟩ := view_text (os := ks) (g := rowG zs rs) (fun y hy => hpool y (fixk y hy)) (by rw [pm.length_eq]; exact h20) fun y hy => bigr _ (row_inA hlr (fixk y hy))
    have t3' : (dictD (kvOf ks (rowG zs rs))).shown.length ≤ sizeLine := Nat.le_trans t3 (by decide)
    refine ⟨_, rfl, hh, _, rfl, hh1, t1, t2, t3', ?_⟩
    refine ⟨_, rfl, _, rfl, nn, r, zs, rs, rfl, hnA2, hrA2, hro, hnd, h0, h20, fun l1 A3 hl10 hl11 s3 => ?_⟩
    have hn3 := s3 _ _ hnA2
    have hr3 := s3 _ _ hrA2
    refine ⟨_, rfl, ?_⟩
    refine ⟨_, rfl, r, rfl, ⟨_, SqL.of hr3⟩, fun D2 hD2 => ?_⟩
    refine lc_it (walk_list (K := K) (a := r) (xs := rs.map V.int)) (fun j B2 => Same A3 B2 ∧ B2 D2 = some (.lst (((lapsR zs.length rs).take j).map V.int))) ⟨same_upd hD2, upd_same⟩ (fun j B2 _ p => SqL.of (p.1 _ _ hr3)) ?_ ?_
    · rintro j x B2 B3 hj ⟨s2, hacc2⟩ ⟨rfl, hx⟩
      rw [List.length_map] at hj
      obtain ⟨y, hy, rfl⟩ := get_map hx
      refine ⟨rfl, tyes ?_⟩
      refine ⟨_, rfl, _, rfl, _, _, rfl, rfl, ⟨by omega, by omega⟩, ?_⟩
      have hjr : j < (lapsR zs.length rs).length := by rw [lapsR_len]; exact hj
      have ey : (lapsR zs.length rs)[j] = y / (zs.length : Int) := by
        rw [List.getElem?_eq_getElem hj] at hy
        rw [← Option.some.inj hy]
        exact List.getElem_map _
      refine ⟨_, hacc2, ?_, fun b o e => by rw [upd_ne (ne_of_none e hD2)]; exact s2 _ _ e, ?_⟩
      · rw [List.length_map, List.length_take]
        exact Nat.lt_of_le_of_lt (Nat.min_le_left _ _) (Nat.lt_of_lt_of_le hj (by rw [hlr]; exact Nat.le_trans h20 (by decide)))
      · rw [upd_same, List.take_succ_eq_append_getElem hjr, List.map_append, ey]
        rfl
    rintro A4 ⟨s4, hD4⟩
    rw [List.length_map, List.take_of_length_le (by rw [lapsR_len]; exact Nat.le_refl _)] at hD4
    refine st_nil ⟨nn, D2, zs, lapsR zs.length rs, rfl, s4 _ _ hn3, hD4, by rw [lapsR_len]; exact hlr, hnd, hl, fun e1 A5 he10 he11 s5 => ?_⟩
    refine st_nil ⟨by show 2 ≤ sizeLine; decide, fun Ld hLd => ?_⟩
    generalize hE : upd A5 Ld _ = A6
    have sA6 : Same A5 A6 := hE ▸ same_upd hLd
    have eLd := congrFun hE.symm Ld
    rw [upd_same] at eLd
    clear hE
    replace eLd : A6 Ld = some (.lst [.ref l1, .ref e1]) := eLd
    have s26 : Same A2 A6 := s3.trans (s4.trans (s5.trans sA6))
    refine ⟨_, _, rfl, ?_⟩
    have hl16 := sA6 _ _ (s5 _ _ (s4 _ _ hl11))
    have he16 := sA6 _ _ he11
    have hh6 := s26 _ _ hh1
    have hd6 := s26 _ _ hdA2
    have hn6 := s26 _ _ hnA2
    have hpA6 := hpA2.same s26
    have sp6 := spA2.same s26
    have tA6 := tA2.ext s26
    have hpo := photoR_perm hnd h0 hro
    have hro1 : ∀ z ∈ photoR zs rs, z.length ≤ 1000 := fun z hz => hzl z (hpo.mem_iff.mp hz)
    have hol : (photoR zs rs).length ≤ 1000 := by rw [photoR_len]; exact hl
    -- found
    refine ⟨_, rfl, _, rfl, ?_⟩
    refine st_nil (photo_ok tA6 hpA6 hnd h0 h20 hh6 pm hro fun l2 B1 hl20 hl21 en1 tB1 => ?_)
    have hhB1 := en1 _ _ hh6 nt_d
    have hpB1 := keepP (ButT.ofE en1) hpA6
    refine ⟨_, rfl, _, rfl, ?_⟩
    refine st_nil (laps_ok hpB1 hnd h0 h20 hhB1 pm hro fun e2 B2 he20 he21 sB2 => ?_)
    refine st_nil ⟨by show 2 ≤ sizeLine; decide, fun FD hFD => ?_⟩
    generalize hE : upd B2 FD _ = B3
    have sB3 : Same B2 B3 := hE ▸ same_upd hFD
    have eFD := congrFun hE.symm FD
    rw [upd_same] at eFD
    clear hE
    replace eFD : B3 FD = some (.lst [.ref l2, .ref e2]) := eFD
    have en3 : ExtN A6 B3 := en1.trans (ExtN.of (sB2.trans sB3))
    have hl2B := sB3 _ _ (sB2 _ _ hl21)
    have he2B := sB3 _ _ he21
    have pair2 : ∀ {G : Hp} {X x y X' x' y' : Addr}, G X = some (.lst [.ref x, .ref y]) → G X' = some (.lst [.ref x', .ref y']) → SameD G 3 (.ref x) (.ref x') → SameD G 3 (.ref y) (.ref y') → SameD G 4 (.ref X) (.ref X') := fun {G X x y X' x' y'} hA hB h1 h2 => SameD.lst (n := 3) hA hB rfl (by show 2 ≤ 1000; decide) fun i x y q1 q2 => by
      rcases i with _ | _ | i
      · cases q1; cases q2; exact h1
      · cases q1; cases q2; exact h2
      · exact absurd q1 (by simp)
    have l1B := en3 _ _ hl16 nt_l
    have e1B := en3 _ _ he16 nt_d
    have LdB := en3 _ _ eLd nt_l
    refine ⟨_, rfl, _, rfl, _, _, rfl, pair2 eFD LdB (same_strs (n := 2) hl2B l1B hol hro1) (same_kv he2B e1B hl hzl), fun B4 sB4 => ⟨true, rfl, iteF ?_⟩⟩
    have en4 := en3.trans (ExtN.of sB4)
    have hhB4 := en4 _ _ hh6 nt_d
    have FD4 := sB4 _ _ eFD
    have l24 := sB4 _ _ hl2B
    refine ⟨_, rfl, hh, _, rfl, hhB4, t1, t2, t3', _, rfl, rfl, _, rfl, iteNS rfl ?_⟩
    refine ⟨_, rfl, _, rfl, FD, _, 0, _, rfl, rfl, SqL.of FD4, (show atI _ ((0 : Nat) : Int) = _ from atI_nat rfl), ?_⟩
    refine st_nil (isph_ok (keepP (ButT.ofE en4) hpA6) hnd h0 h20 l24 hpo hzl fun B5 sB5 => ?_)
    refine ⟨true, true, rfl, rfl, _, rfl, iteF ?_⟩
    have en5 := en4.trans (ExtN.of sB5)
    have FD5 := sB5 _ _ FD4
    have l25 := sB5 _ _ l24
    have e25 := sB5 _ _ (sB4 _ _ he2B)
    -- changed
    have l2n : ∀ {b : Addr} {o : HO}, A6 b = some o → (∀ ps, o ≠ .tbl ps) → b ≠ l2 := fun h nt => hl20 _ _ h nt
    have e2n : ∀ {b : Addr} {o : HO}, A6 b = some o → (∀ ps, o ≠ .tbl ps) → b ≠ e2 := fun h nt => ne_of_none (en1 _ _ h nt) he20
    have l2e2 : l2 ≠ e2 := ne_of_none hl21 he20
    refine ⟨_, rfl, FD, _, 0, _, rfl, rfl, SqL.of FD5, (show atI _ ((0 : Nat) : Int) = _ from atI_nat rfl), ?_⟩
    refine ⟨.inl ⟨rfl, _, SqL.of l25⟩, l2, _, rfl, rfl, l25, ?_⟩
    have FDl2 : FD ≠ l2 := Ne.symm (ne_of_none (sB2 _ _ hl21) hFD)
    have FDe2 : FD ≠ e2 := Ne.symm (ne_of_none he21 hFD)
    have FD6 : (upd B5 l2 (.lst ((photoR zs rs).map V.str).reverse)) FD = some (.lst [.ref l2, .ref e2]) := by rw [upd_ne FDl2]; exact FD5
    have e26 : (upd B5 l2 (.lst ((photoR zs rs).map V.str).reverse)) e2 = some (.dK (kvOf zs (rowG zs (lapsR zs.length rs)))) := by rw [upd_ne (Ne.symm l2e2)]; exact e25
    have k56 : ∀ b o, b ≠ l2 → B5 b = some o → (upd B5 l2 (.lst ((photoR zs rs).map V.str).reverse)) b = some o := fun b o hb e => by rw [upd_ne hb]; exact e
    generalize upd B5 l2 (.lst ((photoR zs rs).map V.str).reverse) = B6 at FD6 e26 k56 ⊢
    refine ⟨_, rfl, FD, _, 1, _, rfl, rfl, SqL.of FD6, (show atI _ ((1 : Nat) : Int) = _ from atI_nat rfl), .inr (.inr (.inl ⟨rfl, .inl ⟨_, e26⟩⟩)), e2, _, rfl, rfl, e26, ?_⟩
    have k57 : ∀ b o, b ≠ l2 → b ≠ e2 → B5 b = some o → (upd B6 e2 (.dK [])) b = some o := fun b o hb hb2 e => by rw [upd_ne hb2]; exact k56 b o hb e
    generalize upd B6 e2 (.dK []) = B7 at k57 ⊢
    have en7 : ExtN A6 B7 := fun b o e nt => k57 b o (l2n e nt) (e2n e nt) (en5 _ _ e nt)
    have tB5 : Tabs TT B5 := tB1.ext (sB2.trans (sB3.trans (sB4.trans sB5)))
    have l2f : B5 l2 = some (.lst ((photoR zs rs).map V.str)) := l25
    have tB7 : Tabs TT B7 := tabs_keep tB5 fun b o n1 n2 e => k57 b o (fun z => by rw [z, l2f] at e; cases e; exact n1 _ rfl) (fun z => by rw [z, e25] at e; cases e; exact n2 _ rfl) e
    have hpB7 := keepP (ButT.ofE en7) hpA6
    have hhB7 := en7 _ _ hh6 nt_d
    -- once more
    refine ⟨_, rfl, _, rfl, st_nil ⟨rfl, rfl, photo_ok tB7 hpB7 hnd h0 h20 hhB7 pm hro fun l3 B8 hl30 hl31 en8 tB8 => ?_⟩⟩
    have hhB8 := en8 _ _ hhB7 nt_d
    have hpB8 := keepP (ButT.ofE en8) hpB7
    refine ⟨_, rfl, _, rfl, st_nil ⟨rfl, rfl, laps_ok hpB8 hnd h0 h20 hhB8 pm hro fun e3 B9 he30 he31 sB9 => ?_⟩⟩
    refine st_nil ⟨by show 2 ≤ sizeLine; decide, fun F3 hF3 => ?_⟩
    generalize hE : upd B9 F3 _ = BA
    have sBA : Same B9 BA := hE ▸ same_upd hF3
    have eF3 := congrFun hE.symm F3
    rw [upd_same] at eF3
    clear hE
    replace eF3 : BA F3 = some (.lst [.ref l3, .ref e3]) := eF3
    have enA : ExtN A6 BA := (en7.trans en8).trans (ExtN.of (sB9.trans sBA))
    refine ⟨_, rfl, _, _, rfl, pair2 eF3 (enA _ _ eLd nt_l) (same_strs (n := 2) (sBA _ _ (sB9 _ _ hl31)) (enA _ _ hl16 nt_l) hol hro1) (same_kv (sBA _ _ he31) (enA _ _ he16 nt_d) hl hzl), fun BB sBB => ⟨true, rfl, iteF ?_⟩⟩
    have enB : ExtN A6 BB := enA.trans (ExtN.of sBB)
    have tBB : Tabs TT BB := tB8.ext (sB9.trans (sBA.trans sBB))
    have spB := sp6.extN enB
    have LdB := enB _ _ eLd nt_l
    have l1BB := enB _ _ hl16 nt_l
    have e1BB := enB _ _ he16 nt_d
    have hnB := enB _ _ hn6 nt_l
    have hpBB := keepP (ButT.ofE enB) hpA6
    -- passed
    refine ⟨_, rfl, _, rfl, Ld, _, 0, _, rfl, rfl, SqL.of LdB, (show atI _ ((0 : Nat) : Int) = _ from atI_nat rfl), l1, _, rfl, .inl (SqL.of l1BB), fun P1 hP1 => ?_⟩
    generalize hE : upd BB P1 _ = C1
    have sC1 : Same BB C1 := hE ▸ same_upd hP1
    have eP1 := congrFun hE.symm P1
    rw [upd_same] at eP1
    clear hE
    refine ⟨_, rfl, Ld, _, 0, _, rfl, rfl, SqL.of (sC1 _ _ LdB), (show atI _ ((0 : Nat) : Int) = _ from atI_nat rfl), l1, _, rfl, .inl ⟨SqL.of (sC1 _ _ l1BB), fun P2 hP2 => ?_⟩⟩
    generalize hE : upd C1 P2 _ = C2
    have sC2 : Same C1 C2 := hE ▸ same_upd hP2
    have eP2 := congrFun hE.symm P2
    rw [upd_same] at eP2
    clear hE
    refine st_nil ⟨by show 2 ≤ sizeLine; decide, fun L2 hL2 => ?_⟩
    generalize hE : upd C2 L2 _ = C3
    have sC3 : Same C2 C3 := hE ▸ same_upd hL2
    have eL2 := congrFun hE.symm L2
    rw [upd_same] at eL2
    clear hE
    have sBC3 := sC1.trans (sC2.trans sC3)
    have spC3 := spB.same sBC3
    have haL2 : a ≠ L2 := fun z => (spB.same (sC1.trans sC2)).ne (by rw [z]; exact hL2)
    have haP1 : a ≠ P1 := fun z => spB.ne (by rw [z]; exact hP1)
    have haP2 : a ≠ P2 := fun z => (spB.same sC1).ne (by rw [z]; exact hP2)
    refine ⟨a, L2, _, _, rfl, haL2, spC3, by omega, eL2, by show 0 < 2; decide, by show 2 ≤ 1000; decide, fun v o hv ho => ?_⟩
    have bC4 : But a C3 (upd C3 a o) := But.upd
    have spC4 : SpAt (upd C3 a o) a (m + 300 + 5000 * i + 1000 + 1) := ⟨o, upd_same, ho⟩
    generalize upd C3 a o = C4 at bC4 spC4
    obtain ⟨x0, kx, rfl, hx0a, hseq⟩ : ∃ (x0 : Addr) (kx : Kd), v = .ref x0 ∧ x0 ≠ a ∧ SeqAt2 C4 x0 ((photoR zs rs).map V.str) kx := by
      simp only [List.mem_cons, List.not_mem_nil, or_false] at hv
      rcases hv with rfl | rfl
      · exact ⟨P1, .list, rfl, Ne.symm haP1, .inl ⟨bC4 _ _ (Ne.symm haP1) (sC3 _ _ (sC2 _ _ eP1)), rfl⟩⟩
      · exact ⟨P2, .tup, rfl, Ne.symm haP2, .inr ⟨bC4 _ _ (Ne.symm haP2) (sC3 _ _ eP2), rfl⟩⟩
    have bBC4 : But a BB C4 := (Same.but sBC3).trans bC4
    have hLda : Ld ≠ a := fun z => (spA2.same (s3.trans (s4.trans s5))).ne (by rw [← z]; exact hLd)
    have hl1a : l1 ≠ a := fun z => spA2.ne (by rw [← z]; exact hl10)
    have he1a : e1 ≠ a := fun z => (spA2.same (s3.trans s4)).ne (by rw [← z]; exact he10)
    have LdC4 := bBC4 _ _ hLda LdB
    have e1C4 := bBC4 _ _ he1a e1BB
    refine ⟨_, rfl, _, rfl, Ld, _, 1, _, rfl, rfl, SqL.of LdC4, (show atI _ ((1 : Nat) : Int) = _ from atI_nat rfl), ?_⟩
    refine st_nil ⟨a, e1, zs, rowG zs (lapsR zs.length rs), _, rfl, Ne.symm he1a, spC4, by omega, e1C4, hnd, hl, fun h2 ks2 C5 h20' h21 pm2 h2a spC5 bC5 => ?_⟩
    refine st_nil ⟨by show 2 ≤ sizeLine; decide, fun LP hLP => ?_⟩
    generalize hE : upd C5 LP _ = C6
    have sC6 : Same C5 C6 := hE ▸ same_upd hLP
    have eLP := congrFun hE.symm LP
    rw [upd_same] at eLP
    clear hE
    replace eLP : C6 LP = some (.lst [.ref x0, .ref h2]) := eLP
    refine st_name ?_
    have bBC6 : But a BB C6 := bBC4.trans (bC5.trans (Same.but sC6))
    have tC6 := Tabs.but tBB spB bBC6
    have spC6 := spC5.same sC6
    have hx6 : SeqAt2 C6 x0 ((photoR zs rs).map V.str) kx := by
      rcases hseq with ⟨e, k⟩ | ⟨e, k⟩
      · exact .inl ⟨sC6 _ _ (bC5 _ _ hx0a e), k⟩
      · exact .inr ⟨sC6 _ _ (bC5 _ _ hx0a e), k⟩
    have h2C6 := sC6 _ _ h21
    have hLPa : LP ≠ a := fun z => spC5.ne (by rw [← z]; exact hLP)
    -- was, told
    have fixk2 : ∀ z ∈ ks2, z ∈ zs := fun z hz => pm2.mem_iff.mp hz
    have bigl : ∀ x ∈ lapsR zs.length rs, x.natAbs < 2 ^ 400 := fun x hx => Nat.lt_of_lt_of_le (lapsR_big h0 hro.2.2.2 x hx) (Nat.pow_le_pow_right (by decide) (by decide : 101 ≤ 400))
    have lapl : (lapsR zs.length rs).length = zs.length := by rw [lapsR_len]; exact hlr
    obtain ⟨u1, u2, u3⟩ := view_text (os := ks2) (g := rowG zs (lapsR zs.length rs)) (fun y hy => hpool y (fixk2 y hy)) (by rw [pm2.length_eq]; exact h20) fun y hy => bigl _ (row_inA lapl (fixk2 y hy))
    obtain ⟨v1, v2, v3⟩ := dataK_text (k := kx) (fun z hz => hpool z (hpo.mem_iff.mp hz)) (by rw [photoR_len]; exact h20)
    obtain ⟨w1', w2'⟩ := pair_text v1 u2 (by omega) u3
    refine ⟨_, rfl, LP, h2, _, _, _, rfl, eLP, dataK_dp hx6, h2C6, u1, w1', w2', v3, ?_⟩
    have hpC6 := keepP (ButT.of bBC6) hpBB
    have hsum0 : (zs.map (rowG zs (lapsR zs.length rs))).sum = 0 := by rw [map_row hnd lapl]; exact laps_zero h0 hro
    refine ⟨_, rfl, _, rfl, LP, _, 0, _, rfl, rfl, SqL.of eLP, (show atI _ ((0 : Nat) : Int) = _ from atI_nat rfl), _, rfl, LP, _, 1, _, rfl, rfl, SqL.of eLP, (show atI _ ((1 : Nat) : Int) = _ from atI_nat rfl), ?_⟩
    refine st_nil (stl_ok hpC6 hnd h0 h20 hx6 hpo hzl h2C6 pm2 (fun hs => absurd hsum0 hs) fun _ T9 C7 hT90 hT91 s7 => ?_)
    rw [laps_back hnd h0 hro pm2] at hT91
    refine ⟨_, _, rfl, ?_⟩
    have hd0a := Ne.symm had0
    have d0C7 := s7 _ _ (bBC6 _ _ hd0a (enB _ _ hd6 nt_d))
    refine ⟨_, rfl, _, rfl, _, _, rfl, (same_kv hT91 d0C7 hl hzl).up 1, fun C8 s8 => ⟨true, rfl, iteF ?_⟩⟩
    have s68 := s7.trans s8
    have LP8 := s68 _ _ eLP
    refine ⟨_, rfl, LP, h2, _, _, _, rfl, LP8, dataK_dp (hx6.same s68), s68 _ _ h2C6, u1, w1', w2', v3, _, rfl, rfl, _, rfl, iteNS rfl ?_⟩
    have T98 := s8 _ _ hT91
    refine ⟨_, rfl, .inr (.inr (.inl ⟨rfl, .inl ⟨_, T98⟩⟩)), T9, _, rfl, rfl, T98, ?_⟩
    have s69 : Same C6 (upd C8 T9 (.dK [])) := fun b o e => by rw [upd_ne (ne_of_none e hT90)]; exact s68 _ _ e
    generalize upd C8 T9 (.dK []) = C9 at s69
    have LdC9 := s69 _ _ (bBC6 _ _ hLda LdB)
    have e1C9 := s69 _ _ (bBC6 _ _ he1a e1BB)
    -- more
    refine ⟨_, rfl, Ld, _, 1, _, rfl, rfl, SqL.of LdC9, (show atI _ ((1 : Nat) : Int) = _ from atI_nat rfl), e1, _, rfl, .inl e1C9, fun M hM => ?_⟩
    generalize hE : upd C9 M _ = CA
    have sCA : Same C9 CA := hE ▸ same_upd hM
    have eM := congrFun hE.symm M
    rw [upd_same] at eM
    clear hE
    refine st_name ?_
    have s6A := s69.trans sCA
    have spCA := spC6.same s6A
    have hMa : M ≠ a := fun z => (spC6.same s69).ne (by rw [← z]; exact hM)
    have tCA := tC6.ext s6A
    have LPA := s6A _ _ eLP
    have hxA := hx6.same s6A
    have h2A := s6A _ _ h2C6
    have hnA := s6A _ _ (bBC6 _ _ (Ne.symm han) hnB)
    have LdA := s6A _ _ (bBC6 _ _ hLda LdB)
    have l1A := s6A _ _ (bBC6 _ _ hl1a l1BB)
    have hpCA := hpC6.same s6A
    have hx0a' : x0 ≠ a := hx0a
    have seqB : ∀ {A B : Hp}, But a A B → SeqAt2 A x0 ((photoR zs rs).map V.str) kx → SeqAt2 B x0 ((photoR zs rs).map V.str) kx := fun b h => h.elim (fun e => .inl ⟨b _ _ hx0a e.1, e.2⟩) fun e => .inr ⟨b _ _ hx0a e.1, e.2⟩
    -- one lap otherwise
    refine ⟨_, rfl, a, 9, _, rfl, by decide, by decide, spCA, by omega, fun dr o9 _ _ ho9 => ?_⟩
    have bCB : But a CA (upd CA a o9) := But.upd
    have spCB : SpAt (upd CA a o9) a (m + 300 + 5000 * i + 1000 + 1 + 1000 + 1) := ⟨o9, upd_same, ho9⟩
    generalize upd CA a o9 = CB at bCB spCB
    have hnCB := bCB _ _ (Ne.symm han) hnA
    refine ⟨_, _, rfl, rfl, _, rfl, _, rfl, _, rfl, a, nn, zs.map V.str, _, rfl, han, spCB, by omega, hnCB, by rw [hll]; exact h0, by rw [hll]; exact hl, fun vz oz hvz hoz => ?_⟩
    obtain ⟨z0, hz0, rfl⟩ := List.mem_map.mp hvz
    have bCC : But a CB (upd CB a oz) := But.upd
    have spCC : SpAt (upd CB a oz) a (m + 300 + 5000 * i + 1000 + 1 + 1000 + 1 + 1) := ⟨oz, upd_same, hoz⟩
    generalize upd CB a oz = CC at bCC spCC
    have bAC : But a CA CC := bCB.trans bCC
    have tCC := Tabs.but tCA spCA bAC
    have MCC := bAC _ _ hMa eM
    have lz : (kvOf zs (rowG zs (lapsR zs.length rs))).length < sizeLine := by rw [show (kvOf zs (rowG zs (lapsR zs.length rs))).length = zs.length from List.length_map _]; exact Nat.lt_of_le_of_lt h20 (by decide)
    refine ⟨M, _, rfl, DPut.k (k := (Sum.inr z0 : Key)) MCC lz, ?_⟩
    rw [put_kv hz0]
    generalize (fun u => if u = z0 then dr - 4 else rowG zs (lapsR zs.length rs) u) = gm
    have eMD : (upd CC M (.dK (kvOf zs gm))) M = some (.dK (kvOf zs gm)) := upd_same
    have kCD : ∀ b o, b ≠ M → CC b = some o → (upd CC M (.dK (kvOf zs gm))) b = some o := fun b o hb e => by rw [upd_ne hb]; exact e
    generalize upd CC M (.dK (kvOf zs gm)) = CD at eMD kCD
    have tCD : Tabs TT CD := tabs_keep tCC fun b o n1 n2 e => kCD b o (fun z => by rw [z, MCC] at e; cases e; exact n2 _ rfl) e
    have k9D : ∀ b o, b ≠ a → C9 b = some o → CD b = some o := fun b o hb e => kCD b o (ne_of_none e hM) (bAC b o hb (sCA _ _ e))
    have b6D : But a C6 CD := fun b o hb e => k9D b o hb (s69 _ _ e)
    have spCD : SpAt CD a (m + 300 + 5000 * i + 1000 + 1 + 1000 + 1 + 1) := by
      obtain ⟨o, ho, hk⟩ := spCC
      exact ⟨o, kCD _ _ (Ne.symm hMa) ho, hk⟩
    have LPD := b6D _ _ hLPa eLP
    have hxD := seqB b6D hx6
    have hpCD := keepP (ButT.of b6D) hpC6
    refine ⟨_, rfl, M, _, zs.map gm, rfl, eMD, (by unfold kvOf; rw [List.map_map, List.map_map]; rfl), rfl, ?_⟩
    refine st_name ?_
    refine ⟨_, rfl, _, rfl, LP, _, 0, _, rfl, rfl, SqL.of LPD, (show atI _ ((0 : Nat) : Int) = _ from atI_nat rfl), _, rfl, st_nil ⟨rfl, rfl, stl_any hpCD hnd h0 h20 hxD hpo hzl eMD (List.Perm.refl _) fun v16 CE sE hv16 => ?_⟩⟩
    refine st_name ?_
    refine ⟨_, rfl, rfl, _, rfl, rfl, _, rfl, ?_⟩
    rw [show (!decide (V.bl (!decide (v16 = .non)) = V.bl (decide (V.int (zs.map gm).sum = V.int 0)))) = false by rw [hv16]; simp]
    refine iteF ?_
    have spCE := spCD.same sE
    -- turned
    refine ⟨_, rfl, _, rfl, a, (zs.length : Nat), _, rfl, by omega, by omega, spCE, by omega, fun ra oa hra0 hra1 hoa => ?_⟩
    obtain ⟨ix, rfl⟩ : ∃ ix : Nat, ra = (ix : Int) := ⟨ra.toNat, by omega⟩
    have hix : ix < zs.length := by omega
    have bCF : But a CE (upd CE a oa) := But.upd
    have spCF : SpAt (upd CE a oa) a (m + 300 + 5000 * i + 1000 + 1 + 1000 + 1 + 1 + 1) := ⟨oa, upd_same, hoa⟩
    generalize upd CE a oa = CFh at bCF spCF
    refine st_name ?_
    have b6F : But a C6 CFh := b6D.trans ((Same.but sE).trans bCF)
    have tCF := Tabs.but (tCD.ext sE) spCE bCF
    have LPF := b6F _ _ hLPa eLP
    have hxF := seqB b6F hx6
    have hpF := keepP (ButT.of b6F) hpC6
    refine ⟨_, rfl, _, rfl, LP, _, 0, _, rfl, rfl, SqL.of LPF, (show atI _ ((0 : Nat) : Int) = _ from atI_nat rfl), _, rfl, ?_⟩
    refine st_nil (turned_ok (i := ix) hpF hnd h0 h20 hxF hpo hzl hix fun U1 CG hU10 hU11 sG => ?_)
    refine ⟨_, rfl, LP, _, 0, _, rfl, rfl, SqL.of (sG _ _ LPF), (show atI _ ((0 : Nat) : Int) = _ from atI_nat rfl), _, rfl, st_nil ⟨rfl, rfl, turned_ok (i := 0) (hpF.same sG) hnd h0 h20 (hxF.same sG) hpo hzl h0 fun U2 CH hU20 hU21 sH => ?_⟩⟩
    rw [List.drop_zero, List.take_zero, List.append_nil] at hU21
    refine st_nil ⟨by show 2 ≤ sizeLine; decide, fun TL hTL => ?_⟩
    generalize hE : upd CH TL _ = CI
    have sCI : Same CH CI := hE ▸ same_upd hTL
    have eTL := congrFun hE.symm TL
    rw [upd_same] at eTL
    clear hE
    replace eTL : CI TL = some (.lst [.ref U1, .ref U2]) := eTL
    refine st_name ?_
    dsimp only [List.set]
    have sFI := sG.trans (sH.trans sCI)
    have LdF : CFh Ld = some (.lst [.ref l1, .ref e1]) := bCF _ _ hLda (sE _ _ (k9D _ _ hLda LdC9))
    have l1C9 := s69 _ _ (bBC6 _ _ hl1a l1BB)
    have l1F : CFh l1 = some (.lst ((photoR zs rs).map V.str)) := bCF _ _ hl1a (sE _ _ (k9D _ _ hl1a l1C9))
    have ol : ((photoR zs rs).map V.str).length = zs.length := by rw [List.length_map, photoR_len]
    refine ⟨_, rfl, _, rfl, Ld, _, 0, _, rfl, rfl, SqL.of (sFI _ _ LdF), (show atI _ ((0 : Nat) : Int) = _ from atI_nat rfl), _, rfl, _, rfl, no_partK ⟨l1, _, rfl, SqL.of (sFI _ _ l1F), fun q1 hq1 => ?_⟩⟩
    rw [cut_from]
    generalize hE : upd CI q1 _ = CJ
    have sCJ : Same CI CJ := hE ▸ same_upd hq1
    have eq1 := congrFun hE.symm q1
    rw [upd_same] at eq1
    clear hE
    have sFJ := sFI.trans sCJ
    refine ⟨_, rfl, Ld, _, 0, _, rfl, rfl, SqL.of (sFJ _ _ LdF), (show atI _ ((0 : Nat) : Int) = _ from atI_nat rfl), no_partK ⟨_, rfl, _, rfl, l1, _, rfl, SqL.of (sFJ _ _ l1F), fun q2 hq2 => ?_⟩⟩
    rw [cut_to]
    generalize hE : upd CJ q2 _ = CK
    have sCK : Same CJ CK := hE ▸ same_upd hq2
    have eq2 := congrFun hE.symm q2
    rw [upd_same] at eq2
    clear hE
    refine ⟨q1, q2, _, _, rfl, rfl, sCK _ _ eq1, eq2, by rw [List.length_drop, List.length_take, ol]; exact Nat.le_trans (show zs.length - ix + min ix zs.length ≤ 40 by omega) (by decide), fun q3 hq3 => ?_⟩
    generalize hE : upd CK q3 _ = CL1
    have sCL1 : Same CK CL1 := hE ▸ same_upd hq3
    have eq3 := congrFun hE.symm q3
    rw [upd_same] at eq3
    clear hE
    have sFL := sFJ.trans (sCK.trans sCL1)
    refine ⟨_, rfl, Ld, _, 0, _, rfl, rfl, SqL.of (sFL _ _ LdF), (show atI _ ((0 : Nat) : Int) = _ from atI_nat rfl), ?_⟩
    refine st_nil ⟨by show 2 ≤ sizeLine; decide, fun W hW => ?_⟩
    generalize hE : upd CL1 W _ = CM1
    have sCM1 : Same CL1 CM1 := hE ▸ same_upd hW
    have eW := congrFun hE.symm W
    rw [upd_same] at eW
    clear hE
    replace eW : CM1 W = some (.lst [.ref q3, .ref l1]) := eW
    have sIM : Same CI CM1 := sCJ.trans (sCK.trans (sCL1.trans sCM1))
    have q3M : CM1 q3 = some (.lst (((photoR zs rs).drop ix ++ (photoR zs rs).take ix).map V.str)) := by
      rw [List.map_append, List.map_drop, List.map_take]
      exact sCM1 _ _ eq3
    have hlen2 : ((photoR zs rs).drop ix ++ (photoR zs rs).take ix).length ≤ 1000 := by
      rw [List.length_append, List.length_drop, List.length_take, photoR_len]
      omega
    have hz2 : ∀ z ∈ (photoR zs rs).drop ix ++ (photoR zs rs).take ix, z.length ≤ 1000 := fun z hz => hro1 z (by
      rcases List.mem_append.mp hz with h | h
      · exact List.mem_of_mem_drop h
      · exact List.mem_of_mem_take h)
    refine ⟨_, _, rfl, pair2 (sIM _ _ eTL) eW (same_strs (n := 2) (sIM _ _ (sCI _ _ (sH _ _ hU11))) q3M hlen2 hz2) (same_strs (n := 2) (sIM _ _ (sCI _ _ hU21)) ((sFI.trans sIM) _ _ l1F) hol hro1), fun CN sN => ⟨true, rfl, iteF ?_⟩⟩
    have sFN : Same CFh CN := sFI.trans (sIM.trans sN)
    have TLN := sN _ _ (sIM _ _ eTL)
    have U2N := sN _ _ (sIM _ _ (sCI _ _ hU21))
    refine ⟨_, rfl, TL, _, 1, _, rfl, rfl, SqL.of TLN, (show atI _ ((1 : Nat) : Int) = _ from atI_nat rfl), .inl ⟨rfl, _, SqL.of U2N⟩, U2, _, rfl, rfl, U2N, ?_⟩
    have kFO : ∀ b o, CFh b = some o → (upd CN U2 (.lst [])) b = some o := fun b o e => by rw [upd_ne (ne_of_none (sG _ _ e) hU20)]; exact sFN _ _ e
    have tCO : Tabs TT (upd CN U2 (.lst [])) := tabs_keep (tCF.ext sFN) fun b o n1 n2 e => by rw [upd_ne (fun z => by rw [z, U2N] at e; cases e; exact n1 _ rfl)]; exact e
    generalize upd CN U2 (.lst []) = CO at kFO tCO
    have sFO : Same CFh CO := fun b o e => kFO b o e
    refine ⟨_, rfl, LP, h2, _, _, _, rfl, sFO _ _ LPF, dataK_dp (hxF.same sFO), sFO _ _ (b6F _ _ h2a h2C6), u1, w1', w2', v3, _, rfl, rfl, _, rfl, iteNS rfl ?_⟩
    refine ⟨_, _, _, _, _, _, _, _, _, _, _, _, _, rfl, (spCF.same sFO).up (by omega), ?_, tCO⟩
    exact bG.trans ((ButT.of bA2).trans ((ButT.ofS s26).trans ((ButT.ofE enB).trans ((ButT.of bBC6).trans ((ButT.of b6F).trans (ButT.ofS sFO))))))

end
end RK

namespace RK
open PySem L2 LamX
/-! ### what are none -/
def AskA (K : PySem.W.Frag) (C CP CS : Addr) (TT : List (Addr × Str)) (fU fV fY : Addr) : Addr → Sp → Prop := fun f sp => (f = fU ∧ sp = spPhotoOf K C CP CS TT) ∨ (f = fV ∧ sp = spLapsOf K C CP CS) ∨ (f = fY ∧ sp = spIsPhotoP K C CP)
def AskB (K : PySem.W.Frag) (C CP CF CL CM fZ fT : Addr) : Addr → Sp → Prop := fun f sp => (f = fZ ∧ sp = spStOfLaps K C CP CF CL) ∨ (f = fT ∧ sp = spPhotoTurned K C CP CF CM)
def spOddsR (TT : List (Addr × Str)) : Sp := fun vs H Q _ => ∃ (a m : Nat), vs = [.ref a] ∧ SpAt H a m ∧ m < 900000000 ∧ Tabs TT H ∧ ∀ H', SpAt H' a (m + 1000) → ButT a H H' → Tabs TT H' → Q (.bl true) H'
abbrev scOd1 : Scope := relS { kind := .function, names := [(".0", .local), ("odd", .cell), ("dict", .globalImplicit), ("names", .free)], isGenerator := false, isCoroutine := false, more := [] } (defScope sOddsR)
theorem nt_t' {c d : Addr} {fs : List (Str × V)} (ps : Array Value) : HO.ins c d fs ≠ .tbl ps := fun z => nomatch z
abbrev rDictP (K : PySem.W.Frag) : List V → Hp → VK → Prop := fun xs H_1 Q => ∃ a ps kvs, xs = [V.ref a] ∧ SqL K H_1 a (List.map V.ref ps) ∧ Paired (fun p kv => SqT K H_1 p [kV kv.fst, kv.snd]) ps kvs ∧ ∀ (p : Addr), H_1 p = none → Q (V.ref p) (upd H_1 p (HO.dK (mergeK [] kvs)))
theorem st_lst {t : TA} {σ : St} {H : Hp} {Q : VK} (h : t σ H fun xs H1 => xs.length ≤ sizeLine ∧ ∀ p, H1 p = none → Q (.ref p) (upd H1 p (.lst xs))) : tLst t σ H Q := h
section
variable {K : PySem.W.Frag} {σ : St} {G : Hp} {F d : Addr} {us : List V} {kvs added : List (Key × V)} {te : TE} {jF jd : Nat} {Q : VK}
theorem app_items (hF : σ[jF]? = some (some (.ref F))) (hd : σ[jd]? = some (some (.ref d))) (eF : G F = some (.lst us)) (hul : us.length < sizeLine) (hdG : G d = some (.dK kvs)) (hl : kvs.length + added.length ≤ 1000)
    (ha : ∀ G1 (Q : VK), Same G G1 → (∀ L ts G2, G2 L = some (.lst (ts.map V.ref)) → Paired (fun (t : Addr) (kv : Key × V) => G2 t = some (.tup [kV kv.1, kv.2])) ts added → Same G1 G2 → Q (.ref L) G2) → te σ G1 Q)
    (q : ∀ e3 G4, Same G G4 → G4 e3 = some (.dK (mergeK [] (kvs ++ added))) → G e3 = none → Q .non (upd G4 F (.lst (us ++ [.ref e3])))) :
    tBM K "list" rAppend (tVar jF) (tCons (tCB (rDictP K) (tCons (tOp rCat (LiI.tListItems (tVar jd)) te) tNil)) tNil) σ G Q := by
  refine ⟨_, hF, .inl ⟨rfl, _, SqL.of eF⟩, ?_⟩
  refine ⟨_, hd, d, kvs, rfl, hdG, fun G1 p1 ts1 (s1 : Same G G1) hp1 hts1 hpt1 e1 pr1 => ?_⟩
  refine ha G1 _ s1 fun L ts2 G2 eL pr2 s2 => ?_
  refine ⟨p1, L, _, _, rfl, rfl, s2 _ _ e1, eL, ?_, fun D hD => ?_⟩
  · rw [List.length_map, List.length_map, Paired.length pr1, Paired.length pr2]
    exact Nat.le_trans hl (by decide)
  generalize hE : upd G2 D _ = G3
  have s3 : Same G2 G3 := hE ▸ same_upd hD
  have eD := congrFun hE.symm D
  rw [upd_same] at eD
  clear hE
  have s03 : Same G G3 := s1.trans (s2.trans s3)
  refine ⟨D, ts1 ++ ts2, kvs ++ added, rfl, SqL.of (by rw [eD, List.map_append]), Paired.mono (fun t kv e => SqT.of e) (paired_app (Paired.mono (fun t kv e => s3 _ _ (s2 _ _ e)) pr1) (Paired.mono (fun t kv e => s3 _ _ e) pr2)), fun e3 he3 => ?_⟩
  generalize hE : upd G3 e3 _ = G4
  have s4 : Same G3 G4 := hE ▸ same_upd he3
  have ee3 := congrFun hE.symm e3
  rw [upd_same] at ee3
  clear hE
  have s04 : Same G G4 := s03.trans s4
  exact ⟨F, _, _, rfl, rfl, s04 _ _ eF, hul, q e3 G4 s04 ee3 (s03.free he3)⟩
end
theorem add_oneH {σ : St} {Q : VK} {ta tb : TE} {z : Str} {v : V} {G1 : Hp} (ha : ∀ (Q : VK), Q (.str z) G1 → ta σ G1 Q) (hb : ∀ G2 (Q : VK), Same G1 G2 → Q v G2 → tb σ G2 Q)
    (q : ∀ L ts G2, G2 L = some (.lst (ts.map V.ref)) → Paired (fun (t : Addr) (kv : Key × V) => G2 t = some (.tup [kV kv.1, kv.2])) ts [((Sum.inr z : Key), v)] → Same G1 G2 → Q (.ref L) G2) : tLst (tCons (tTup (tCons ta (tCons tb tNil))) tNil) σ G1 Q := by
  refine st_lst (st_cons (st_tup (st_cons (ha _ (st_cons (hb _ _ (Same.refl _) (st_nil ⟨by show 2 ≤ sizeLine; decide, fun T hT => st_nil ⟨by show 1 ≤ sizeLine; decide, fun L hL => ?_⟩⟩)))))))
  have sT := same_upd (o := .tup [V.str z, v]) hT
  have eT : (upd G1 T (.tup [V.str z, v])) T = some (.tup [V.str z, v]) := upd_same
  have sL := same_upd (o := .lst [V.ref T]) hL
  exact q L [T] _ upd_same (.cons (sL _ _ eT) .nil) (sT.trans sL)
theorem no1_poolS : ("no1" : Str) ∉ pool := by decide +kernel
theorem ite2S {c : Bool} {A B : Prop} (h1 : c = true → A) (h0 : c = false → B) : if c = true then A else B := by
  cases c
  · exact iteF (h0 rfl)
  · exact iteT (h1 rfl)
theorem no_of {H : Hp} {l b : Addr} {o : HO} (h : no H l b = some o) : b ≠ l ∧ H b = some o := by
  by_cases e : b = l
  · unfold no at h
    rw [if_pos e] at h
    cases h
  · rw [no_ne e] at h
    exact ⟨e, h⟩
theorem mets_it {K : PySem.W.Frag} {T : List (Addr × Str)} {σ : St} {vs : List Nat} {i : Nat} {te : TE} {T0 D : Addr} {xs : List V} {H1 : Hp} {Qd : Hp → Prop} {word : Str} {v : V}
    (eT : H1 T0 = some (.tup xs)) (hD : H1 D = none) (hl : xs.length ≤ 10) (tb : Tabs T H1) (hw : ∀ x, wipe ((wipe σ vs).set i (some x)) vs = wipe σ vs)
    (hv : ∀ x ∈ xs, ∀ G (Q : VK), ExtN H1 G → Tabs T G → (∀ q G', ExtN G G' → Tabs T G' → G' q = some (.tup [.str word, v]) → Q (.ref q) G') → te ((wipe σ vs).set i (some x)) G Q)
    (hd : ∀ G (ps : List Addr), ExtN H1 G → Tabs T G → G D = some (.lst (ps.map V.ref)) → ps.length = xs.length → (∀ r ∈ ps, G r = some (.tup [.str word, v])) → Qd G) :
    ∃ W : Nat → Nat → Hp → Prop, (∃ m, W 0 m (upd H1 D (.lst []))) ∧ ∀ j m H, W j m H →
      ((Itt K T0).stop j H ∧ Qd H) ∨ ((Itt K T0).go j H ∧ ∃ Nx : Hp → Prop, (∀ H', Nx H' → ∃ m', m' < m ∧ W (j + 1) m' H') ∧ ∀ x H', (Itt K T0).yld j H x H' → gName i x (wipe σ vs) H' fun σ2 H2 => wipe σ2 vs = wipe σ vs ∧ tYes σ2 H2 fun b H3 =>
        if b = true then te σ2 H3 fun y H4 => ∃ acc, H4 D = some (.lst acc) ∧ acc.length < sizeLine ∧ Nx (upd H4 D (.lst (acc ++ [y]))) else Nx H3) := by
  refine lc_it (walk_tup (K := K) (a := T0) (xs := xs)) (fun j G => ExtN H1 G ∧ Tabs T G ∧ ∃ ps : List Addr, ps.length = j ∧ G D = some (.lst (ps.map V.ref)) ∧ ∀ r ∈ ps, G r = some (.tup [.str word, v])) ⟨ExtN.of (same_upd hD), tb.ext (same_upd hD), [], rfl, upd_same, (fun _ z => nomatch z)⟩ (fun j G _ p => SqT.of (p.1 _ _ eT nt_t)) ?_ ?_
  · rintro j x G G2 hj ⟨en, tG, ps, hps, hacc, hr⟩ ⟨rfl, hx⟩
    refine ⟨hw _, tyes (hv x (List.mem_of_getElem? hx) _ _ en tG fun q G' en' tG' eq => ?_)⟩
    have hacc' := en' _ _ hacc nt_l
    have kp : ∀ b o, b ≠ D → G' b = some o → (upd G' D (.lst (ps.map V.ref ++ [.ref q]))) b = some o := fun b o hb e => by rw [upd_ne hb]; exact e
    refine ⟨_, hacc', by rw [List.length_map, hps]; exact Nat.lt_trans (Nat.lt_of_lt_of_le hj hl) (by decide), fun b o e nt => kp b o (ne_of_none e hD) (en' _ _ (en _ _ e nt) nt), tabs_keep tG' fun b o n1 n2 e => kp b o (fun z => by rw [z, hacc'] at e; cases e; exact n1 _ rfl) e, ps ++ [q], by rw [List.length_append, hps]; rfl, by rw [upd_same, List.map_append]; rfl, fun r hr' => ?_⟩
    rcases List.mem_append.mp hr' with h | h
    · have e := en' _ _ (hr r h) nt_t
      exact kp r _ (fun z => by rw [z, hacc'] at e; cases e) e
    · rw [List.mem_singleton.mp h]
      exact kp q _ (fun z => by rw [z, hacc'] at eq; cases eq) eq
  · rintro G ⟨en, tG, ps, hps, hacc, hr⟩
    exact hd G ps en tG hacc hps hr
theorem one_metT {K : PySem.W.Frag} {CP CS CF CL CE Cx : Addr} {T : List (Addr × Str)} {σ : St} {H : Hp} {R : VK} {te1 : XK → TE} {fld word : Str} {v : V} (hT : Tabs T H)
    (hw : ∀ Q d H', Says Cx fld word Q (.ref Cx) d H' → metW K CP CS CF CL CE Q (.ref Cx) d H')
    (h1 : ∀ (G : Hp) (Q' : VK) (E' : XK), ExtN H G → Tabs T G → (∀ d H', Same G H' → H' d = some (.xd [(fld, v)]) → E' (.ref Cx) (some d) H') → te1 E' σ G Q')
    (fin : ∀ q G, ExtN H G → Tabs T G → G q = some (.tup [.str word, v]) → R (.ref q) G) : tLam T (TTmet K CP CS CF CL CE) te1 σ H R := by
  refine ⟨hT, fun G1 en1 tb1 => h1 G1 _ _ en1 tb1 fun d H2 s2 e2 => hw _ _ _ ⟨rfl, d, v, rfl, e2, fun q hq => ?_⟩⟩
  have sq := same_upd (o := .tup [V.str word, v]) hq
  have eq : (upd H2 q (.tup [V.str word, v])) q = some (.tup [V.str word, v]) := upd_same
  generalize upd H2 q (.tup [V.str word, v]) = H3 at sq eq
  exact fin q H3 ((en1.trans (ExtN.of s2)).trans (ExtN.of sq)) ((tb1.ext s2).ext sq) eq
section
variable {K : PySem.W.Frag} {C CP CS CF CL CM p t a : Addr} {TT : List (Addr × Str)} {zs os : List Str} {G : Hp} {v u x y : V} {k : Kd} {Q : VK} {E : XK}
theorem photo_badT {next : List Str → Prop} (h : OddPh K zs G u) (hE : Bad "photo" CF u G E) : PhotoT K CF zs u G E next := by
  obtain ⟨k, h1, _, h3⟩ := h
  refine ⟨k, h1, fun _ => hE, fun hk => ?_⟩
  obtain ⟨a, xs, e, h4, h5, h6, h7⟩ := h3 hk
  exact ⟨a, xs, e, h4, h5, h6, fun _ => hE, fun z => absurd (h7.symm.trans z) (fun q => nomatch q)⟩
theorem ask_path {fU fV fY f : Addr} {sp : Sp} (h : AskA K C CP CS TT fU fV fY f sp) (hT : Tabs TT G) (hv : Th K G v k) (hE : Bad "thing" CP v G E) : sp [v, u] G Q E := by
  rcases h with ⟨_, rfl⟩ | ⟨_, rfl⟩ | ⟨_, rfl⟩
  · exact ⟨_, _, rfl, hT, .inl ⟨k, hv, hE⟩⟩
  · exact ⟨_, _, rfl, .inl ⟨k, hv, hE⟩⟩
  · exact ⟨_, _, rfl, .inl ⟨k, hv, hE⟩⟩
theorem ask_pathB {fZ fT f : Addr} {sp : Sp} (h : AskB K C CP CF CL CM fZ fT f sp) (hv : Th K G v k) (hE : Bad "thing" CP v G E) : sp [v, u, x] G Q E := by
  rcases h with ⟨_, rfl⟩ | ⟨_, rfl⟩
  · exact ⟨_, _, _, rfl, .inl ⟨k, hv, hE⟩⟩
  · exact ⟨_, _, _, rfl, .inl ⟨k, hv, hE⟩⟩
theorem stand_badT {next : Addr → List (Key × V) → Prop} (h : BadV K (NoSt zs) G u) (hE : Bad "stand" CS u G E) : StandT K CS zs u G E next := by
  obtain ⟨k, h1, _, h3⟩ := h
  refine ⟨k, h1, fun _ => hE, fun hk => ?_⟩
  obtain ⟨d, kvs, e1, e2, e3, e4⟩ := h3 hk
  exact ⟨d, kvs, e1, e2, e3, fun _ => hE, fun z => absurd ((show standB zs kvs = false from e4).symm.trans z) (fun q => nomatch q)⟩
theorem ask_stand {fU fV fY f : Addr} {sp : Sp} (h : (f = fU ∧ sp = spPhotoOf K C CP CS TT) ∨ (f = fV ∧ sp = spLapsOf K C CP CS)) (hT : Tabs TT G) (hp : PathAt C G p t zs) (nd : zs.Nodup) (h2 : 2 ≤ zs.length) (hl : zs.length ≤ 20) (hb : BadV K (NoSt zs) G u) (hE : Bad "stand" CS u G E) : sp [.ref p, u] G Q E := by
  rcases h with ⟨_, rfl⟩ | ⟨_, rfl⟩
  · exact ⟨_, _, rfl, hT, .inr ⟨p, t, zs, rfl, hp, nd, by omega, by omega, stand_badT hb hE⟩⟩
  · exact ⟨_, _, rfl, .inr ⟨p, t, zs, rfl, hp, nd, by omega, by omega, stand_badT hb hE⟩⟩
theorem ask_photo {fZ fT f : Addr} {sp : Sp} (h : AskB K C CP CF CL CM fZ fT f sp) (hp : PathAt C G p t zs) (nd : zs.Nodup) (h2 : 2 ≤ zs.length) (hl : zs.length ≤ 20) (hb : OddPh K zs G u) (hE : Bad "photo" CF u G E) : sp [.ref p, u, x] G Q E := by
  rcases h with ⟨_, rfl⟩ | ⟨_, rfl⟩
  · exact ⟨_, _, _, rfl, .inr ⟨p, t, zs, rfl, hp, nd, by omega, by omega, photo_badT hb hE⟩⟩
  · exact ⟨_, _, _, rfl, .inr ⟨p, t, zs, rfl, hp, nd, by omega, by omega, photo_badT hb hE⟩⟩
theorem is_no_photo (hp : PathAt C G p t zs) (nd : zs.Nodup) (h2 : 2 ≤ zs.length) (hl : zs.length ≤ 20) (hb : OddPh K zs G u) (q : ∀ H', Same G H' → Q (.bl false) H') : spIsPhotoP K C CP [.ref p, u] G Q E := by
  obtain ⟨k, h1, _, h3⟩ := hb
  refine ⟨_, _, rfl, .inr ⟨p, t, zs, rfl, hp, nd, by omega, by omega, k, h1, fun _ => q, fun hk => ?_⟩⟩
  obtain ⟨a, xs, e, h4, h5, h6, h7⟩ := h3 hk
  exact ⟨a, xs, e, h4, h5, h6, fun H' s => by rw [h7]; exact q H' s⟩
theorem laps_bad (hp : PathAt C G p t zs) (nd : zs.Nodup) (h2 : 2 ≤ zs.length) (hl : zs.length ≤ 20) (hzl : ∀ z ∈ zs, z.length ≤ 1000) (ha : G a = some (.lst (os.map V.str))) (hpo : os.Perm zs) (h : BadV K (fun kvs => dictB zs kvs = false) G x) (hE : Bad "laps" CL x G E) : spStOfLaps K C CP CF CL [.ref p, .ref a, x] G Q E := by
  obtain ⟨k, h1, _, h3⟩ := h
  refine ⟨_, _, _, rfl, .inr ⟨p, t, zs, rfl, hp, nd, by omega, by omega, photo_good (.inl ⟨ha, rfl⟩) hpo nd hzl (by omega) ⟨k, h1, fun _ => hE, fun hk => ?_⟩⟩⟩
  obtain ⟨dd, kvs, e1, e2, e3, e4⟩ := h3 hk
  exact ⟨dd, kvs, e1, e2, e3, fun _ => hE, fun z => absurd ((show dictB zs kvs = false from e4).symm.trans z) (fun q => nomatch q)⟩
theorem many_bad (hp : PathAt C G p t zs) (nd : zs.Nodup) (h2 : 2 ≤ zs.length) (hl : zs.length ≤ 20) (hzl : ∀ z ∈ zs, z.length ≤ 1000) (ha : G a = some (.lst (os.map V.str))) (hpo : os.Perm zs) (h : Th K G x k) (hm : manyB zs x = false) (hE : Bad "many" CM x G E) : spPhotoTurned K C CP CF CM [.ref p, .ref a, x] G Q E :=
  ⟨_, _, _, rfl, .inr ⟨p, t, zs, rfl, hp, nd, by omega, by omega, photo_good (.inl ⟨ha, rfl⟩) hpo nd hzl (by omega) ⟨k, h, fun _ => hE, fun j e hj => absurd (show manyB zs x = true by
    rw [e]
    show (decide ((0 : Int) ≤ (j : Int)) && decide ((j : Int) < (zs.length : Int))) = true
    rw [decide_eq_true (by omega), decide_eq_true (by omega)]
    rfl) (by rw [hm]; exact fun q => nomatch q)⟩⟩⟩
end
theorem paired_drop1 {α β : Type} {F : α → β → Prop} : ∀ {k : Nat} {l : List α} {m : List β}, Paired F l m → Paired F (l.drop k) (m.drop k)
  | 0, _, _, h => h
  | _ + 1, _, _, .nil => .nil
  | k + 1, _, _, .cons _ h => paired_drop1 (k := k) h
section
variable {P : Program} {w : World} {K : PySem.W.Frag} {mg : Str → Option Value} {base : Heap} {C CP fP CS fS CF fF CL fL CM fMm fMe c Pt : Addr} {fdMe : FuncData} {TT : List (Addr × Str)}
theorem scOddsR : FnScope ["source", "names", "path", "row", "stand", "photo", "odd", "found", "laps", "odds", "held", "ask", "place", "name"] ["source"] (defScope sOddsR) := ⟨rfl, rfl, rfl, by decide +kernel, rfl, by decide +kernel, by decide +kernel⟩
theorem ok_oddsR {f fU fV fZ fT fQ fI fR fY fX fH fJ fA fO fN fD : Addr} {fdU fdV fdZ fdT fdQ fdI fdR fdY fdX fdH fdJ fdA fdO fdN fdD : FuncData} {oc kVv doc pm ct : Value} {od an : Option Addr} {osl : Array (Option Value)}
    (lk : K.lookup f = some ⟨oc, od, .func (PySem.W.fnOf "_law_odds_right" "_law_odds_right" (defArgs sOddsR) (defBody sOddsR) (defScope sOddsR) .none kVv doc pm an (.ref c) ct), osl⟩) (hcd : PySem.W.codeIn K (.ref c) "_law_odds_right" = true)
    (B : B0 K mg) (TB : TabB base mg c Pt) (hmT : (Pt, qLam) ∈ TT) (huT : ∀ p ∈ TT, p.1 = Pt → p.2 = qLam) (TP : ErrAt P K mg "BadPath" "thing" CP fP) (TS : ErrAt P K mg "BadStand" "stand" CS fS) (TF : ErrAt P K mg "BadPhoto" "photo" CF fF) (TL : ErrAt P K mg "BadLaps" "laps" CL fL) (TM : ErrAt P K mg "BadMany" "many" CM fMm)
    (x1 : PySem.W.exmOne K (.ref CS) (.ref CP) = some false) (x2 : PySem.W.exmOne K (.ref CF) (.ref CP) = some false) (x3 : PySem.W.exmOne K (.ref CF) (.ref CS) = some false) (x4 : PySem.W.exmOne K (.ref CL) (.ref CP) = some false) (x5 : PySem.W.exmOne K (.ref CL) (.ref CS) = some false) (x6 : PySem.W.exmOne K (.ref CL) (.ref CF) = some false)
    (x7 : PySem.W.exmOne K (.ref CM) (.ref CP) = some false) (x8 : PySem.W.exmOne K (.ref CM) (.ref CS) = some false) (x9 : PySem.W.exmOne K (.ref CM) (.ref CF) = some false) (x10 : PySem.W.exmOne K (.ref CM) (.ref CL) = some false)
    (FM : Fun K "_law_met" "_law_met" sMet fMe fdMe) (bM : Binds K fdMe ["ask"] []) (gM : mg "_law_met" = some (.ref fMe)) (kM : PySem.W.keepIn K (.ref fMe) = true)
    (GU : FnOk P w K mg base (L2.CX P w) 5 fU fdU ["path", "stand"] (spPhotoOf K C CP CS TT)) (bU : Binds K fdU ["path", "stand"] []) (gU : mg "photo_of" = some (.ref fU)) (kU9 : PySem.W.keepIn K (.ref fU) = true)
    (GV : FnOk P w K mg base (L2.CX P w) 5 fV fdV ["path", "stand"] (spLapsOf K C CP CS)) (bV : Binds K fdV ["path", "stand"] []) (gV : mg "laps_of" = some (.ref fV)) (kV9 : PySem.W.keepIn K (.ref fV) = true)
    (GZ : FnOk P w K mg base (L2.CX P w) 5 fZ fdZ ["path", "photo", "laps"] (spStOfLaps K C CP CF CL)) (bZ : Binds K fdZ ["path", "photo", "laps"] []) (gZ : mg "stand_of_laps" = some (.ref fZ)) (kZ9 : PySem.W.keepIn K (.ref fZ) = true)
    (GT : FnOk P w K mg base (L2.CX P w) 5 fT fdT ["path", "photo", "many"] (spPhotoTurned K C CP CF CM)) (bT : Binds K fdT ["path", "photo", "many"] []) (gT : mg "photo_turned" = some (.ref fT)) (kT9 : PySem.W.keepIn K (.ref fT) = true)
    (GQ : FnOk P w K mg base CX0 9 fQ fdQ ["found", "wanted"] (spSame 8)) (bQ : Binds K fdQ ["found", "wanted"] []) (gQ : mg "_law_same" = some (.ref fQ)) (kQ9 : PySem.W.keepIn K (.ref fQ) = true)
    (GI : FnOk P w K mg base CX0 1 fI fdI ["names", "row"] spWDict) (bI : Binds K fdI ["names", "row"] []) (gI : mg "_law_w_dict" = some (.ref fI)) (kI9 : PySem.W.keepIn K (.ref fI) = true)
    (GR : FnOk P w K mg base CX0 1 fR fdR ["names"] (spOddPh K)) (bR : Binds K fdR ["names"] []) (gR : mg "_law_w_odd_photos" = some (.ref fR)) (kR9 : PySem.W.keepIn K (.ref fR) = true)
    (GY : FnOk P w K mg base (L2.CX P w) 5 fY fdY ["path", "thing"] (spIsPhotoP K C CP)) (bY : Binds K fdY ["path", "thing"] []) (gY : mg "is_photo" = some (.ref fY)) (kY9 : PySem.W.keepIn K (.ref fY) = true)
    (GX : FnOk P w K mg base CX0 1 fX fdX ["names", "stand"] (spOddSt K)) (bX : Binds K fdX ["names", "stand"] []) (gX : mg "_law_w_odd_stands" = some (.ref fX)) (kX9 : PySem.W.keepIn K (.ref fX) = true)
    (GH : FnOk P w K mg base CX0 1 fH fdH ["names"] (spOddPa K)) (bH : Binds K fdH ["names"] []) (gH : mg "_law_w_odd_paths" = some (.ref fH)) (kH9 : PySem.W.keepIn K (.ref fH) = true)
    (GJ : FnOk P w K mg base CX0 1 fJ fdJ ["names", "row"] spWPhoto) (bJ : Binds K fdJ ["names", "row"] []) (gJ : mg "_law_w_photo" = some (.ref fJ)) (kJ9 : PySem.W.keepIn K (.ref fJ) = true)
    (GA : FnOk P w K mg base CX0 4 fA fdA ["source", "names"] (spWPath C)) (bA : Binds K fdA ["source", "names"] []) (gA : mg "_law_w_path" = some (.ref fA)) (kA9 : PySem.W.keepIn K (.ref fA) = true)
    (GO : FnOk P w K mg base CX0 3 fO fdO ["source", "many", "far"] spWPlaces) (bO : Binds K fdO ["source", "many", "far"] []) (gO : mg "_law_w_places" = some (.ref fO)) (kO9 : PySem.W.keepIn K (.ref fO) = true)
    (GN : FnOk P w K mg base CX0 3 fN fdN ["source", "many"] spNames) (bN : Binds K fdN ["source", "many"] []) (gN : mg "_law_w_names" = some (.ref fN)) (kN9 : PySem.W.keepIn K (.ref fN) = true)
    (GD : FnOk P w K mg base CX0 1 fD fdD ["source", "many"] spDraw) (bD : Binds K fdD ["source", "many"] []) (gD : mg "_law_draw" = some (.ref fD)) (kD9 : PySem.W.keepIn K (.ref fD) = true) :
    FnOk P w K mg base CX0 10 f (PySem.W.fnOf "_law_odds_right" "_law_odds_right" (defArgs sOddsR) (defBody sOddsR) (defScope sOddsR) .none kVv doc pm an (.ref c) ct) ["source"] (spOddsR TT) := by
  have heldA : ∀ f sp, AskA K C CP CS TT fU fV fY f sp → HeldX P w K mg base 5 f sp := fun f sp h => by
    rcases h with ⟨rfl, rfl⟩ | ⟨rfl, rfl⟩ | ⟨rfl, rfl⟩
    · exact ⟨fdU, _, GU, kU9, bU⟩
    · exact ⟨fdV, _, GV, kV9, bV⟩
    · exact ⟨fdY, _, GY, kY9, bY⟩
  have heldB : ∀ f sp, AskB K C CP CF CL CM fZ fT f sp → HeldX P w K mg base 5 f sp := fun f sp h => by
    rcases h with ⟨rfl, rfl⟩ | ⟨rfl, rfl⟩
    · exact ⟨fdZ, _, GZ, kZ9, bZ⟩
    · exact ⟨fdT, _, GT, kT9, bT⟩
  refine fn_of lk hcd scOddsR (fun vs H Q E h => ?_) (fun A outer s H vs Q E hr h => ?_)
  · obtain ⟨a, m, rfl, _⟩ := h
    rfl
  · obtain ⟨a, m, rfl, hsp, hm, hT, q⟩ := h
    have hu := hu_of hr
    have hr1 : Room 1 _ := hr.mono (by decide)
    have hr2 : Room 2 _ := hr.mono (by decide)
    have hr3 : Room 3 _ := hr.mono (by decide)
    have hr4 : Room 4 _ := hr.mono (by decide)
    have hr5 : Room 5 _ := hr.mono (by decide)
    have hr9 : Room 9 _ := hr.mono (by decide)
    have hr7 : Room (5 + 2) _ := hr.mono (by decide)
    refine ⟨_, PSs.nox (pss_cons (ps_set (i := 1) scOddsR.nd rfl (Or.inr rfl) (pe_call GN hr3 (by rfl) gN kN9 bN .nil pass0 (pa_cons (pv 0) (pa_cons (pe_op op_add pe_int (pe_call GD hr1 (by rfl) gD kD9 bD .nil pass0 (pa_cons (pv 0) (pa_cons pe_int pa_nil)))) pa_nil))))
      (pss_cons (ps_asg (pe_tup (pa_cons (pe_call GA hr4 (by rfl) gA kA9 bA .nil pass0 (pa_cons (pv 0) (pa_cons (pv 1) pa_nil))) (pa_cons (pe_call GO hr3 (by rfl) gO kO9 bO .nil pass0 (pa_cons (pv 0) (pa_cons (pe_callB call_len_seq (by rfl) B.len PySem.boot_len (pa_cons (pv 1) pa_nil)) (pa_cons pe_int pa_nil)))) pa_nil))) (pg_tup rfl (pgs_cons (pg_name (i := 2) scOddsR.nd rfl (Or.inr rfl)) (pgs_cons (pg_name (i := 3) scOddsR.nd rfl (Or.inl rfl)) pgs_nil))))
      (pss_cons (ps_asg (pe_tup (pa_cons (pe_call GI hr1 (by rfl) gI kI9 bI .nil pass0 (pa_cons (pv 1) (pa_cons (pv 3) pa_nil))) (pa_cons (pe_call GJ hr1 (by rfl) gJ kJ9 bJ .nil pass0 (pa_cons (pv 1) (pa_cons (pv 3) pa_nil))) pa_nil))) (pg_tup rfl (pgs_cons (pg_name (i := 4) scOddsR.nd rfl (Or.inl rfl)) (pgs_cons (pg_name (i := 5) scOddsR.nd rfl (Or.inr rfl)) pgs_nil))))
      (pss_cons (ps_for PassesOwn.never rfl (pi_list (pe_call GH hr1 (by rfl) gH kH9 bH .nil pass0 (pa_cons (pv 1) pa_nil))) (pg_name (i := 6) scOddsR.nd rfl (Or.inr rfl))
        (pss_cons (ps_setLc (i := 7) (te := (tLam TT (TTmet K CP CS CF CL CM) fun E => tCallX 11 (AskA K C CP CS TT fU fV fY) E (tCons (tVar 6) (tCons (L2.tC .non) tNil)))) (own := [("ask", 11)]) (g := (gName 11)) (tt := tYes) rfl scOddsR.nd rfl rfl (by rfl) (pi_tup (pe_tup (pa_cons (pe_glob (v := .ref fU) (by rfl) gU rfl) (pa_cons (pe_glob (v := .ref fV) (by rfl) gV rfl) (pa_cons (pe_glob (v := .ref fY) (by rfl) gY rfl) pa_nil))))) (blkOk_by (N := ["source", "names", "path", "row", "stand", "photo", "odd", "found", "laps", "odds", "held", "ask", "place", "name"]) (sc := defScope sOddsR) (by decide +kernel))
        (fun _ _ _ _ _ => (pg_name (i := 11) scOddsR.nd rfl (Or.inr rfl))) (fun _ _ _ _ _ => pts_nil) (fun _ _ _ _ _ => by exact (by exact (pe_met (T := TT) (t := fun E => tCallX 11 (AskA K C CP CS TT fU fV fY) E (tCons (tVar 6) (tCons (L2.tC .non) tNil))) FM bM gM kM TP TS TF TL TM (by rfl) TB rfl hmT huT hr7 (lamS_by (sc := relS { kind := .function, names := [(".0", .local), ("ask", .cell), ("_law_met", .globalImplicit), ("odd", .free)], isGenerator := false, isCoroutine := false } (defScope sOddsR)) (by decide +kernel)) (by rfl) (fun _ _ _ _ _ => by rfl) (fun A outer s H E f c' hr2 => by exact (pe_callX heldA hr2 rfl (.inr (.inr rfl)) (passes_call (takes_of rfl rfl rfl rfl) fun _ _ _ _ h => h) (pa_cons (pv 6) (pa_cons pe_non pa_nil))))))))
      (pss_cons (ps_expr (pe_bm PySem.F.plainAttrs_list PySem.F.slot_list_extend PySem.F.type_list_extend mt_extend (pv 7) (pa_cons (pe_lc (te := (tLam TT (TTmet K CP CS CF CL CM) fun E => tCallX 11 (AskB K C CP CF CL CM fZ fT) E (tCons (tVar 6) (tCons (L2.tC .non) (tCons (L2.tC .non) tNil))))) (own := [("ask", 11)]) (g := (gName 11)) (tt := tYes) rfl scOddsR.nd (pi_tup (pe_tup (pa_cons (pe_glob (v := .ref fZ) (by rfl) gZ rfl) (pa_cons (pe_glob (v := .ref fT) (by rfl) gT rfl) pa_nil)))) (blkOk_by (N := ["source", "names", "path", "row", "stand", "photo", "odd", "found", "laps", "odds", "held", "ask", "place", "name"]) (sc := defScope sOddsR) (by decide +kernel))
          (fun _ _ _ _ _ => (pg_name (i := 11) scOddsR.nd rfl (Or.inr rfl))) (fun _ _ _ _ _ => pts_nil) (fun _ _ _ _ _ => by exact (by exact (pe_met (T := TT) (t := fun E => tCallX 11 (AskB K C CP CF CL CM fZ fT) E (tCons (tVar 6) (tCons (L2.tC .non) (tCons (L2.tC .non) tNil)))) FM bM gM kM TP TS TF TL TM (by rfl) TB rfl hmT huT hr7 (lamS_by (sc := relS { kind := .function, names := [(".0", .local), ("ask", .cell), ("_law_met", .globalImplicit), ("odd", .free)], isGenerator := false, isCoroutine := false } (defScope sOddsR)) (by decide +kernel)) (by rfl) (fun _ _ _ _ _ => by rfl) (fun A outer s H E f c' hr2 => by exact (pe_callX heldB hr2 rfl (.inr (.inr rfl)) (passes_call (takes_of rfl rfl rfl rfl) fun _ _ _ _ h => h) (pa_cons (pv 6) (pa_cons pe_non (pa_cons pe_non pa_nil))))))))) pa_nil)))
      (pss_one (ps_if (pt_not (pt_val (pe_call GQ hr9 (by rfl) gQ kQ9 bQ .nil pass0 (pa_cons (pv 7) (pa_cons (pe_op op_rep (pe_lst (pa_cons (pe_tup (pa_cons pe_str (pa_cons (pv 6) pa_nil))) pa_nil)) pe_int) pa_nil))))) (pss_one (ps_ret pe_bl)) (pss_nil))))))
      (pss_cons (ps_for PassesOwn.never rfl (pi_list (pe_call GX hr1 (by rfl) gX kX9 bX .nil pass0 (pa_cons (pv 1) (pa_cons (pv 4) pa_nil)))) (pg_name (i := 6) scOddsR.nd rfl (Or.inr rfl))
        (pss_one (ps_if (pt_not (pt_val (pe_call GQ hr9 (by rfl) gQ kQ9 bQ .nil pass0 (pa_cons (pe_lc (te := (tLam TT (TTmet K CP CS CF CL CM) fun E => tCallX 11 (AskA K C CP CS TT fU fV fY) E (tCons (tVar 2) (tCons (tVar 6) tNil)))) (own := [("ask", 11)]) (g := (gName 11)) (tt := tYes) rfl scOddsR.nd (pi_tup (pe_tup (pa_cons (pe_glob (v := .ref fU) (by rfl) gU rfl) (pa_cons (pe_glob (v := .ref fV) (by rfl) gV rfl) pa_nil)))) (blkOk_by (N := ["source", "names", "path", "row", "stand", "photo", "odd", "found", "laps", "odds", "held", "ask", "place", "name"]) (sc := defScope sOddsR) (by decide +kernel))
          (fun _ _ _ _ _ => (pg_name (i := 11) scOddsR.nd rfl (Or.inr rfl))) (fun _ _ _ _ _ => pts_nil) (fun _ _ _ _ _ => by exact (by exact (pe_met (T := TT) (t := fun E => tCallX 11 (AskA K C CP CS TT fU fV fY) E (tCons (tVar 2) (tCons (tVar 6) tNil))) FM bM gM kM TP TS TF TL TM (by rfl) TB rfl hmT huT hr7 (lamS_by (sc := relS { kind := .function, names := [(".0", .local), ("ask", .cell), ("_law_met", .globalImplicit), ("odd", .free), ("path", .free)], isGenerator := false, isCoroutine := false } (defScope sOddsR)) (by decide +kernel)) (by rfl) (fun _ _ _ _ _ => by rfl) (fun A outer s H E f c' hr2 => by exact (pe_callX heldA hr2 rfl (.inr (.inr rfl)) (passes_call (takes_of rfl rfl rfl rfl) fun _ _ _ _ h => h) (pa_cons (pv 2) (pa_cons (pv 6) pa_nil)))))))) (pa_cons (pe_op op_rep (pe_lst (pa_cons (pe_tup (pa_cons pe_str (pa_cons (pv 6) pa_nil))) pa_nil)) pe_int) pa_nil))))) (pss_one (ps_ret pe_bl)) (pss_nil))))
      (pss_cons (ps_for PassesOwn.never rfl (pi_list (pe_call GR hr1 (by rfl) gR kR9 bR .nil pass0 (pa_cons (pv 1) pa_nil))) (pg_name (i := 6) scOddsR.nd rfl (Or.inr rfl))
        (pss_cons (ps_setLc (i := 7) (te := (tLam TT (TTmet K CP CS CF CL CM) fun E => tCallX 11 (AskB K C CP CF CL CM fZ fT) E (tCons (tVar 2) (tCons (tVar 6) (tCons (L2.tC .non) tNil))))) (own := [("ask", 11)]) (g := (gName 11)) (tt := tYes) rfl scOddsR.nd rfl rfl (by rfl) (pi_tup (pe_tup (pa_cons (pe_glob (v := .ref fZ) (by rfl) gZ rfl) (pa_cons (pe_glob (v := .ref fT) (by rfl) gT rfl) pa_nil)))) (blkOk_by (N := ["source", "names", "path", "row", "stand", "photo", "odd", "found", "laps", "odds", "held", "ask", "place", "name"]) (sc := defScope sOddsR) (by decide +kernel))
        (fun _ _ _ _ _ => (pg_name (i := 11) scOddsR.nd rfl (Or.inr rfl))) (fun _ _ _ _ _ => pts_nil) (fun _ _ _ _ _ => by exact (by exact (pe_met (T := TT) (t := fun E => tCallX 11 (AskB K C CP CF CL CM fZ fT) E (tCons (tVar 2) (tCons (tVar 6) (tCons (L2.tC .non) tNil)))) FM bM gM kM TP TS TF TL TM (by rfl) TB rfl hmT huT hr7 (lamS_by (sc := relS { kind := .function, names := [(".0", .local), ("ask", .cell), ("_law_met", .globalImplicit), ("odd", .free), ("path", .free)], isGenerator := false, isCoroutine := false } (defScope sOddsR)) (by decide +kernel)) (by rfl) (fun _ _ _ _ _ => by rfl) (fun A outer s H E f c' hr2 => by exact (pe_callX heldB hr2 rfl (.inr (.inr rfl)) (passes_call (takes_of rfl rfl rfl rfl) fun _ _ _ _ h => h) (pa_cons (pv 2) (pa_cons (pv 6) (pa_cons pe_non pa_nil)))))))))
      (pss_one (ps_if (PW.pt (pw_or (pt_not (pt_val (pe_call GQ hr9 (by rfl) gQ kQ9 bQ .nil pass0 (pa_cons (pv 7) (pa_cons (pe_op op_rep (pe_lst (pa_cons (pe_tup (pa_cons pe_str (pa_cons (pv 6) pa_nil))) pa_nil)) pe_int) pa_nil))))) (pw_or1 (pt_cmpR op_isnot_bl (pe_call GY hr5 (by rfl) gY kY9 bY .nil passL (pa_cons (pv 2) (pa_cons (pv 6) pa_nil))) pe_bl (nomark _))))) (pss_one (ps_ret pe_bl)) (pss_nil)))))
      (pss_cons (ps_set (i := 8) scOddsR.nd rfl (Or.inl rfl) (pe_call GI hr1 (by rfl) gI kI9 bI .nil pass0 (pa_cons (pv 1) (pa_cons (pe_lc (te := (tOp (rI CDiv fun i j => .int (i / j)) (tVar 12) (tCB (fun xs H Q => ∃ p ys, xs = [.ref p] ∧ (SqL K H p ys ∨ SqT K H p ys) ∧ Q (.int ys.length) H) (tCons (tVar 1) tNil)))) (own := [("place", 12)]) (g := (gName 12)) (tt := tYes) rfl scOddsR.nd (pi_list (pv 3)) (blkOk_by (N := ["source", "names", "path", "row", "stand", "photo", "odd", "found", "laps", "odds", "held", "ask", "place", "name"]) (sc := defScope sOddsR) (by decide +kernel))
          (fun _ _ _ _ _ => (pg_name (i := 12) scOddsR.nd rfl (Or.inl rfl))) (fun _ _ _ _ _ => pts_nil) (fun _ _ _ _ _ => by exact (pe_op op_fdiv (pv 12) (pe_callB call_len_seq (by rfl) B.len PySem.boot_len (pa_cons (pv 1) pa_nil))))) pa_nil))))
      (pss_cons (ps_set (i := 9) scOddsR.nd rfl (Or.inl rfl) (pe_lst (pa_cons pe_non (pa_cons pe_int (pa_cons pe_str (pa_cons (pe_lst pa_nil) (pa_cons pe_dnewK (pa_cons pe_bl (pa_cons (LiI.pe_listItems rfl (pv 8) (by rfl) B.list (by decide +kernel)) (pa_cons (pe_callTy (call_dictP rfl) (by rfl) B.dict (by decide +kernel) (pa_cons (pe_slice sl_list (LiI.pe_listItems rfl (pv 8) (by rfl) B.list (by decide +kernel)) (po_some pe_int) po_none) pa_nil)) pa_nil))))))))))
      (pss_cons (ps_expr (pe_bm PySem.F.plainAttrs_list PySem.F.slot_list_append PySem.F.type_list_append mt_append (pv 9) (pa_cons (pe_callTy (call_dictP rfl) (by rfl) B.dict (by decide +kernel) (pa_cons (pe_op op_cat (LiI.pe_listItems rfl (pv 8) (by rfl) B.list (by decide +kernel)) (pe_lst (pa_cons (pe_tup (pa_cons pe_str (pa_cons pe_int pa_nil))) pa_nil))) pa_nil)) pa_nil)))
      (pss_cons (ps_expr (pe_bm PySem.F.plainAttrs_list PySem.F.slot_list_extend PySem.F.type_list_extend mt_extend (pv 9) (pa_cons (pe_lc (te := (tCB (fun xs H_1 Q => ∃ a ps kvs, xs = [V.ref a] ∧ SqL K H_1 a (List.map V.ref ps) ∧ Paired (fun p kv => SqT K H_1 p [kV kv.fst, kv.snd]) ps kvs ∧ ∀ (p : Addr), H_1 p = none → Q (V.ref p) (upd H_1 p (HO.dK (mergeK [] kvs)))) (tCons (tLc (iList K (tVar 1)) (gName 13) tYes (tTup (tCons (tVar 13) (tCons (tIf (tTest (tOp rEq (tVar 13) (tOp (rIxL K) (tVar 1) (L2.tC (.int 0))))) (tVar 6) (L2.tC (.int 0))) tNil))) [13]) tNil))) (own := [("odd", 6)]) (g := (gName 6)) (tt := tYes) rfl scOddsR.nd (pi_tup (pe_tup (pa_cons pe_non (pa_cons pe_bl (pa_cons pe_str (pa_cons (pe_lst (pa_cons pe_int pa_nil)) pa_nil)))))) (blkOk_by (N := ["source", "names", "path", "row", "stand", "photo", "odd", "found", "laps", "odds", "held", "ask", "place", "name"]) (sc := defScope sOddsR) (by decide +kernel))
          (fun _ _ _ _ _ => (pg_name (i := 6) scOddsR.nd rfl (Or.inr rfl))) (fun _ _ _ _ _ => pts_nil) (fun _ _ _ _ _ => by exact (pe_callTy (call_dictP rfl) (by rfl) B.dict (by decide +kernel) (pa_cons (pe_lc (te := (tTup (tCons (tVar 13) (tCons (tIf (tTest (tOp rEq (tVar 13) (tOp (rIxL K) (tVar 1) (L2.tC (.int 0))))) (tVar 6) (L2.tC (.int 0))) tNil)))) (own := [("name", 13)]) (g := (gName 13)) (tt := tYes) rfl scOddsR.nd (pi_list (pv 1)) (blkOk_by (N := ["source", "names", "path", "row", "stand", "photo", "odd", "found", "laps", "odds", "held", "ask", "place", "name"]) (sc := scOd1) (by decide +kernel))
          (fun _ _ _ _ _ => (pg_name (i := 13) scOddsR.nd rfl (Or.inl rfl))) (fun _ _ _ _ _ => pts_nil) (fun _ _ _ _ _ => by exact (pe_tup (pa_cons (pv 13) (pa_cons (pe_ifExp (pt_cmpR op_eq (pv 13) (pe_ix ix_list (pv 1) pe_int (fun _ _ => rfl)) (nomark _)) (pv 6) pe_int) pa_nil))))) pa_nil)))) pa_nil)))
      (pss_cons (ps_for PassesOwn.never rfl (pi_list (pv 9)) (pg_name (i := 6) scOddsR.nd rfl (Or.inr rfl))
        (pss_one (ps_if (pt_not (pt_val (pe_call GQ hr9 (by rfl) gQ kQ9 bQ .nil pass0 (pa_cons (by exact (pe_met (T := TT) (t := fun E => tCall (spStOfLaps K C CP CF CL) [] E (tCons (tVar 2) (tCons (tVar 5) (tCons (tVar 6) tNil)))) FM bM gM kM TP TS TF TL TM (by rfl) TB rfl hmT huT hr7 (lamS_by (sc := defScope sOddsR) (by decide +kernel)) (by rfl) (fun _ _ _ _ _ => by rfl) (fun A outer s H E f c' hr2 => by exact (pe_call GZ hr2 (by rfl) gZ kZ9 bZ .nil (passes_call (takes_of rfl rfl rfl rfl) fun _ _ _ _ h => h) (pa_cons (pv 2) (pa_cons (pv 5) (pa_cons (pv 6) pa_nil))))))) (pa_cons (pe_tup (pa_cons pe_str (pa_cons (pv 6) pa_nil))) pa_nil))))) (pss_one (ps_ret pe_bl)) (pss_nil))))
      (pss_cons (ps_for PassesOwn.never rfl (pi_tup (pe_tup (pa_cons pe_non (pa_cons pe_bl (pa_cons (pe_un un_neg pe_int) (pa_cons (pe_callB call_len_seq (by rfl) B.len PySem.boot_len (pa_cons (pv 1) pa_nil)) (pa_cons pe_str (pa_cons (pe_lst (pa_cons pe_int pa_nil)) (pa_cons pe_dnewK (pa_cons (pe_op op_pow pe_int pe_int) pa_nil)))))))))) (pg_name (i := 6) scOddsR.nd rfl (Or.inr rfl))
        (pss_one (ps_if (pt_not (pt_val (pe_call GQ hr9 (by rfl) gQ kQ9 bQ .nil pass0 (pa_cons (by exact (pe_met (T := TT) (t := fun E => tCall (spPhotoTurned K C CP CF CM) [] E (tCons (tVar 2) (tCons (tVar 5) (tCons (tVar 6) tNil)))) FM bM gM kM TP TS TF TL TM (by rfl) TB rfl hmT huT hr7 (lamS_by (sc := defScope sOddsR) (by decide +kernel)) (by rfl) (fun _ _ _ _ _ => by rfl) (fun A outer s H E f c' hr2 => by exact (pe_call GT hr2 (by rfl) gT kT9 bT .nil (passes_call (takes_of rfl rfl rfl rfl) fun _ _ _ _ h => h) (pa_cons (pv 2) (pa_cons (pv 5) (pa_cons (pv 6) pa_nil))))))) (pa_cons (pe_tup (pa_cons pe_str (pa_cons (pv 6) pa_nil))) pa_nil))))) (pss_one (ps_ret pe_bl)) (pss_nil))))
      (pss_cons (ps_set (i := 10) scOddsR.nd rfl (Or.inr rfl) (pe_lst (pa_cons pe_str pa_nil)))
      (pss_cons (ps_set (i := 7) scOddsR.nd rfl (Or.inl rfl) (pe_lst (pa_cons (by exact (pe_met (T := TT) (t := fun E => tCall (spStOfLaps K C CP CF CL) [] E (tCons (tVar 2) (tCons (tVar 10) (tCons (L2.tC .non) tNil)))) FM bM gM kM TP TS TF TL TM (by rfl) TB rfl hmT huT hr7 (lamS_by (sc := defScope sOddsR) (by decide +kernel)) (by rfl) (fun _ _ _ _ _ => by rfl) (fun A outer s H E f c' hr2 => by exact (pe_call GZ hr2 (by rfl) gZ kZ9 bZ .nil (passes_call (takes_of rfl rfl rfl rfl) fun _ _ _ _ h => h) (pa_cons (pv 2) (pa_cons (pv 10) (pa_cons pe_non pa_nil))))))) pa_nil)))
      (pss_cons (ps_expr (pe_bm PySem.F.plainAttrs_list PySem.F.slot_list_append PySem.F.type_list_append mt_append (pv 7) (pa_cons (by exact (pe_met (T := TT) (t := fun E => tCall (spStOfLaps K C CP CF CL) [] E (tCons (tVar 2) (tCons (tVar 5) (tCons (tVar 10) tNil)))) FM bM gM kM TP TS TF TL TM (by rfl) TB rfl hmT huT hr7 (lamS_by (sc := defScope sOddsR) (by decide +kernel)) (by rfl) (fun _ _ _ _ _ => by rfl) (fun A outer s H E f c' hr2 => by exact (pe_call GZ hr2 (by rfl) gZ kZ9 bZ .nil (passes_call (takes_of rfl rfl rfl rfl) fun _ _ _ _ h => h) (pa_cons (pv 2) (pa_cons (pv 5) (pa_cons (pv 10) pa_nil))))))) pa_nil)))
      (pss_cons (ps_expr (pe_bm PySem.F.plainAttrs_list PySem.F.slot_list_append PySem.F.type_list_append mt_append (pv 10) (pa_cons pe_str pa_nil)))
      (pss_one (ps_ret (pe_call GQ hr9 (by rfl) gQ kQ9 bQ .nil pass0 (pa_cons (pv 7) (pa_cons (pe_lst (pa_cons (pe_tup (pa_cons pe_str (pa_cons (pe_lst (pa_cons pe_str (pa_cons pe_str pa_nil))) pa_nil))) (pa_cons (pe_tup (pa_cons pe_str (pa_cons (pe_lst (pa_cons pe_str (pa_cons pe_str pa_nil))) pa_nil))) pa_nil))) pa_nil))))))))))))))))))))), ?_⟩
    -- names
    refine ⟨_, rfl, _, rfl, a, 6, m, rfl, by decide, by decide, hsp, by omega, fun r0 o0 hr0 hr1' ho0 => ?_⟩
    obtain ⟨rn, rfl⟩ : ∃ rn : Nat, r0 = (rn : Int) := ⟨r0.toNat, by omega⟩
    have b01 : But a H (upd H a o0) := But.upd
    have sp1 : SpAt (upd H a o0) a (m + 1) := ⟨o0, upd_same, ho0⟩
    generalize upd H a o0 = H1 at b01 sp1 ⊢
    refine ⟨_, _, rfl, rfl, ?_⟩
    refine st_nil ⟨a, 2 + rn, m + 1, (by show [V.ref a, V.int (2 + (rn : Int))] = [V.ref a, V.int ((2 + rn : Nat) : Int)]; rw [show (2 : Int) + (rn : Int) = ((2 + rn : Nat) : Int) by omega]), by omega, sp1, by omega, fun n zs H2 hnd hpool hlz hn0 hn2 sp2 b12 => ?_⟩
    have han : a ≠ n := fun e => sp1.ne (by rw [e]; exact hn0)
    have h2 : 2 ≤ zs.length := by omega
    have h20 : zs.length ≤ 20 := by omega
    have h0 : 0 < zs.length := by omega
    have hl : zs.length ≤ 1000 := by omega
    have hll : (zs.map V.str).length = zs.length := List.length_map _
    have hnm : Nm zs := fun z hz => pool_names z (hpool z hz)
    have hzl : ∀ z ∈ zs, z.length ≤ 1000 := fun z hz => pool_len z (hpool z hz)
    refine st_name ?_
    -- path, row
    refine ⟨_, rfl, _, rfl, a, n, zs, m + 1 + 20, rfl, han, sp2, by omega, hn2, hnd, hnm, hzl, h2, hl, fun p t H3 hp hpa hta sp3 b23 => ?_⟩
    have hn3 := b23 _ _ (Ne.symm han) hn2
    refine ⟨_, rfl, _, rfl, n, _, rfl, .inl (SqL.of hn3), ?_⟩
    rw [hll]
    refine ⟨a, zs.length, 2, _, rfl, by omega, h20, by decide, sp3, by omega, fun r rs H4 hr0 hr1 hro sp4 b34 => ?_⟩
    have hra : r ≠ a := fun e => sp3.ne (by rw [← e]; exact hr0)
    refine ⟨by show 2 ≤ sizeLine; decide, fun T0 hT0 => ?_⟩
    generalize hE : upd H4 T0 _ = H5
    have sH5 : Same H4 H5 := hE ▸ same_upd hT0
    have eT0 := congrFun hE.symm T0
    rw [upd_same] at eT0
    clear hE
    refine ⟨T0, _, rfl, SqT.of eT0, rfl, _, _, rfl, _, _, rfl, rfl, ?_⟩
    have b05 : But a H H5 := b01.trans (b12.trans (b23.trans (b34.trans (Same.but sH5))))
    have sp5 := sp4.same sH5
    have hn5 := sH5 _ _ (b34 _ _ (Ne.symm han) hn3)
    have hr5r := sH5 _ _ hr1
    have hp5 : PathAt C H5 p t zs := ⟨let ⟨dx, e⟩ := hp.ob; ⟨dx, sH5 _ _ (b34 _ _ hpa e)⟩, sH5 _ _ (b34 _ _ hta hp.tu)⟩
    -- stand, photo
    refine ⟨_, rfl, _, rfl, n, r, zs, rs, rfl, hn5, hr5r, hro.1, hnd, hl, fun d H6 hd0 hd1 s56 => ?_⟩
    refine ⟨_, rfl, _, rfl, n, r, zs, rs, rfl, s56 _ _ hn5, s56 _ _ hr5r, hro, hnd, h0, h20, fun ph H7 hph0 hph1 s67 => ?_⟩
    refine ⟨by show 2 ≤ sizeLine; decide, fun T1 hT1 => ?_⟩
    generalize hE : upd H7 T1 _ = H8
    have sH8 : Same H7 H8 := hE ▸ same_upd hT1
    have eT1 := congrFun hE.symm T1
    rw [upd_same] at eT1
    clear hE
    refine ⟨T1, _, rfl, SqT.of eT1, rfl, _, _, rfl, _, _, rfl, rfl, ?_⟩
    have s58 := s56.trans (s67.trans sH8)
    have hn8 := s58 _ _ hn5
    have hr8 := s58 _ _ hr5r
    have hp8 := hp5.same s58
    have hd8 := sH8 _ _ (s67 _ _ hd1)
    have hph8 := sH8 _ _ hph1
    have sp8 := sp5.same s58
    have b08 : But a H H8 := b05.trans (Same.but s58)
    have t8 : Tabs TT H8 := Tabs.but hT hsp b08
    have hst := row_sta hnd hro
    have hpo := photoR_perm hnd h0 hro
    have pathT : ∀ {G G' : Hp}, ExtN G G' → PathAt C G p t zs → PathAt C G' p t zs := fun en hp => ⟨let ⟨dx, e⟩ := hp.ob; ⟨dx, en _ _ e nt_t'⟩, en _ _ hp.tu nt_t⟩
    have hwP : ∀ (Q : VK) (d : Option Addr) (H' : Hp), Says CP "thing" "path" Q (.ref CP) d H' → metW K CP CS CF CL CM Q (.ref CP) d H' := fun Q d H' s => ⟨true, TP.x.te, fun _ => s, fun z => nomatch z⟩
    have hwS : ∀ (Q : VK) (d : Option Addr) (H' : Hp), Says CS "stand" "stand" Q (.ref CS) d H' → metW K CP CS CF CL CM Q (.ref CS) d H' := fun Q d H' s => ⟨false, x1, (fun z => nomatch z), fun _ => ⟨true, TS.x.te, fun _ => s, fun z => nomatch z⟩⟩
    have hwF : ∀ (Q : VK) (d : Option Addr) (H' : Hp), Says CF "photo" "photo" Q (.ref CF) d H' → metW K CP CS CF CL CM Q (.ref CF) d H' := fun Q d H' s => ⟨false, x2, (fun z => nomatch z), fun _ => ⟨false, x3, (fun z => nomatch z), fun _ => ⟨true, TF.x.te, fun _ => s, fun z => nomatch z⟩⟩⟩
    have hwL : ∀ (Q : VK) (d : Option Addr) (H' : Hp), Says CL "laps" "laps" Q (.ref CL) d H' → metW K CP CS CF CL CM Q (.ref CL) d H' := fun Q d H' s => ⟨false, x4, (fun z => nomatch z), fun _ => ⟨false, x5, (fun z => nomatch z), fun _ => ⟨false, x6, (fun z => nomatch z), fun _ => ⟨true, TL.x.te, fun _ => s, fun z => nomatch z⟩⟩⟩⟩
    have hwM : ∀ (Q : VK) (d : Option Addr) (H' : Hp), Says CM "many" "many" Q (.ref CM) d H' → metW K CP CS CF CL CM Q (.ref CM) d H' := fun Q d H' s => ⟨false, x7, (fun z => nomatch z), fun _ => ⟨false, x8, (fun z => nomatch z), fun _ => ⟨false, x9, (fun z => nomatch z), fun _ => ⟨false, x10, (fun z => nomatch z), fun _ => ⟨true, TM.x.te, fun _ => s, fun z => nomatch z⟩⟩⟩⟩⟩
    -- what is no path
    refine ⟨_, rfl, n, zs, rfl, hn8, hzl, h2, hl, fun l os1 Ga hla hla0 hol hos sa => ?_⟩
    refine ⟨l, rfl, ⟨_, SqL.of hla⟩, for_list (xs := os1) (fun i σ G' => ∃ w6 w7, σ = [some (.ref a), some (.ref n), some (.ref p), some (.ref r), some (.ref d), some (.ref ph), w6, w7, none, none, none, none, none, none] ∧ ExtN Ga G' ∧ Tabs TT G')
      ⟨none, none, rfl, ExtN.refl Ga, t8.ext sa⟩ (fun i σ G' _ ⟨_, _, _, b, _⟩ => SqL.of (b _ _ hla nt_l)) ?_ ?_⟩
    · rintro j v σ G1 hv ⟨w6', w7', rfl, en1, t1⟩
      obtain ⟨⟨k, hth⟩, hsm⟩ := hos v (List.mem_of_getElem? hv)
      refine st_name ?_
      refine ⟨by show 3 ≤ sizeLine; decide, fun X0 hX0 => ?_⟩
      generalize hE : upd G1 X0 _ = G2
      have sG2 : Same G1 G2 := hE ▸ same_upd hX0
      have eX0 := congrFun hE.symm X0
      rw [upd_same] at eX0
      clear hE
      replace eX0 : G2 X0 = some (.tup [.ref fU, .ref fV, .ref fY]) := eX0
      have en2 : ExtN Ga G2 := en1.trans (ExtN.of sG2)
      refine ⟨X0, rfl, ⟨_, SqT.of eX0⟩, fun D hD => mets_it (word := "path") (v := v) eX0 hD (by show 3 ≤ 10; decide) (t1.ext sG2) (fun _ => rfl) (fun x hx G Q en tG qq => ?_) fun G3 ps1 en3 t3 hFD hps1 hr1 => ?_⟩
      · obtain ⟨f1, sp, rfl, hS⟩ : ∃ f1 sp, x = .ref f1 ∧ AskA K C CP CS TT fU fV fY f1 sp := by
          simp only [List.mem_cons, List.not_mem_nil, or_false] at hx
          rcases hx with rfl | rfl | rfl
          · exact ⟨_, _, rfl, .inl ⟨rfl, rfl⟩⟩
          · exact ⟨_, _, rfl, .inr (.inl ⟨rfl, rfl⟩)⟩
          · exact ⟨_, _, rfl, .inr (.inr ⟨rfl, rfl⟩)⟩
        refine one_metT (K := K) (CP := CP) (CS := CS) (CF := CF) (CL := CL) (CE := CM) (Cx := CP) (fld := "thing") (word := "path") (v := v) tG hwP (fun G5 Q' E' en5 tG5 hE => ?_) qq
        exact ⟨f1, sp, rfl, hS, _, rfl, ask_path hS tG5 (hth.extN ((en2.trans en).trans en5)) hE⟩
      refine st_name ?_
      refine ⟨_, rfl, .inl ⟨rfl, _, SqL.of hFD⟩, ?_⟩
      refine ⟨by show 2 ≤ sizeLine; decide, fun X1 hX1 => ?_⟩
      generalize hE : upd G3 X1 _ = G4
      have sG4 : Same G3 G4 := hE ▸ same_upd hX1
      have eX1 := congrFun hE.symm X1
      rw [upd_same] at eX1
      clear hE
      replace eX1 : G4 X1 = some (.tup [.ref fZ, .ref fT]) := eX1
      refine ⟨X1, rfl, ⟨_, SqT.of eX1⟩, fun D2 hD2 => mets_it (word := "path") (v := v) eX1 hD2 (by show 2 ≤ 10; decide) (t3.ext sG4) (fun _ => rfl) (fun x hx G Q en tG qq => ?_) fun G5 ps2 en5 t5 hF2 hps2 hr2 => ?_⟩
      · obtain ⟨f1, sp, rfl, hS⟩ : ∃ f1 sp, x = .ref f1 ∧ AskB K C CP CF CL CM fZ fT f1 sp := by
          simp only [List.mem_cons, List.not_mem_nil, or_false] at hx
          rcases hx with rfl | rfl
          · exact ⟨_, _, rfl, .inl ⟨rfl, rfl⟩⟩
          · exact ⟨_, _, rfl, .inr ⟨rfl, rfl⟩⟩
        refine one_metT (K := K) (CP := CP) (CS := CS) (CF := CF) (CL := CL) (CE := CM) (Cx := CP) (fld := "thing") (word := "path") (v := v) tG hwP (fun G6 Q' E' en6 tG6 hE => ?_) qq
        exact ⟨f1, sp, rfl, hS, _, rfl, ask_pathB hS (hth.extN ((((en2.trans en3).trans (ExtN.of sG4)).trans en).trans en6)) hE⟩
      have hFD5 := en5 _ _ (sG4 _ _ hFD) nt_l
      refine st_nil ⟨D, D2, _, _, rfl, rfl, hFD5, hF2, by rw [List.length_map, List.length_map, hps1, hps2]; show 3 + 2 ≤ sizeLine; decide, ?_⟩
      rw [← List.map_append]
      have eDx : (upd G5 D (.lst ((ps1 ++ ps2).map V.ref))) D = some (.lst ((ps1 ++ ps2).map V.ref)) := upd_same
      have bx : But D G5 (upd G5 D (.lst ((ps1 ++ ps2).map V.ref))) := But.upd
      have tx : Tabs TT (upd G5 D (.lst ((ps1 ++ ps2).map V.ref))) := tabs_keep t5 fun b o n1 _ e => bx b o (fun z => by rw [z, hFD5] at e; cases e; exact n1 _ rfl) e
      generalize upd G5 D (.lst ((ps1 ++ ps2).map V.ref)) = G6 at eDx bx tx
      have en26 : ExtN G2 G6 := fun b o e nt => bx b o (ne_of_none e hD) (en5 _ _ (sG4 _ _ (en3 _ _ e nt)) nt)
      have en16 : ExtN G1 G6 := (ExtN.of sG2).trans en26
      have lps : (ps1 ++ ps2).length = 5 := by rw [List.length_append, hps1, hps2]; rfl
      have hps : ∀ r ∈ ps1 ++ ps2, G6 r = some (.tup [.str "path", v]) := fun r hr => by
        have e : G5 r = some (.tup [.str "path", v]) := by
          rcases List.mem_append.mp hr with h | h
          · exact en5 _ _ (sG4 _ _ (hr1 r h)) nt_t
          · exact hr2 r h
        exact bx r _ (fun z => by rw [z, hFD5] at e; cases e) e
      generalize ps1 ++ ps2 = ps at eDx lps hps
      refine ⟨_, rfl, ?_⟩
      refine ⟨_, rfl, by show 2 ≤ sizeLine; decide, fun u hu2 => ?_⟩
      generalize hE : upd G6 u _ = M1
      have sM1 : Same G6 M1 := hE ▸ same_upd hu2
      have eu := congrFun hE.symm u
      rw [upd_same] at eu
      clear hE
      refine ⟨by show 1 ≤ sizeLine; decide, fun y1 hy1 => ?_⟩
      generalize hE : upd M1 y1 _ = M2
      have sM2 : Same M1 M2 := hE ▸ same_upd hy1
      have ey1 := congrFun hE.symm y1
      rw [upd_same] at ey1
      clear hE
      refine ⟨y1, 5, _, rfl, rfl, ey1, by decide, by decide, by show 1 * 5 ≤ sizeLine; decide, fun qq hq => ?_⟩
      generalize hE : upd M2 qq _ = M3
      have sM3 : Same M2 M3 := hE ▸ same_upd hq
      have eqq := congrFun hE.symm qq
      rw [upd_same] at eqq
      clear hE
      have sM : Same G6 M3 := sM1.trans (sM2.trans sM3)
      have hsd : SameD M3 6 v v := (hsm.extN (en1.trans en16)).mono sM
      refine ⟨.ref D, .ref qq, rfl, same_rep (n := 5) (t := u) (word := "path") (v := v) (ps := ps) (sM _ _ eDx) (fun r hr => sM _ _ (hps r hr)) lps (by decide) eqq (sM3 _ _ (sM2 _ _ eu)) (by decide) hsd, fun G11 s11 => ⟨true, rfl, iteF ?_⟩⟩
      exact ⟨_, _, rfl, (en1.trans en16).trans (ExtN.of (sM.trans s11)), tx.ext (sM.trans s11)⟩
    rintro σ G1 ⟨w6', w7', rfl, en1, t1⟩
    have enG1 : ExtN H8 G1 := (ExtN.of sa).trans en1
    -- what is no stand
    have hn1 := enG1 _ _ hn8 nt_l
    have hd1' := enG1 _ _ hd8 nt_d
    refine ⟨_, rfl, _, rfl, n, d, zs, _, rfl, hn1, hd1', hst, hnd, hpool, h2, h20, fun l2 os2 Gc hlc hlc0 hoc hos2 sc => ?_⟩
    have enGc : ExtN H8 Gc := enG1.trans (ExtN.of sc)
    have tc : Tabs TT Gc := t1.ext sc
    refine ⟨l2, rfl, ⟨_, SqL.of hlc⟩, for_list (xs := os2) (fun i σ G' => ∃ w6 w7, σ = [some (.ref a), some (.ref n), some (.ref p), some (.ref r), some (.ref d), some (.ref ph), w6, w7, none, none, none, none, none, none] ∧ ExtN Gc G' ∧ Tabs TT G')
      ⟨_, _, rfl, ExtN.refl _, tc⟩ (fun i σ G' _ ⟨_, _, _, b, _⟩ => SqL.of (b _ _ hlc nt_l)) ?_ ?_⟩
    · rintro j v σ G2 hv ⟨w6'', w7'', rfl, en2, t2⟩
      have hbv := hos2 v (List.mem_of_getElem? hv)
      refine st_name ?_
      refine ⟨by show 2 ≤ sizeLine; decide, fun X0 hX0 => ?_⟩
      generalize hE : upd G2 X0 _ = G3
      have sG3 : Same G2 G3 := hE ▸ same_upd hX0
      have eX0 := congrFun hE.symm X0
      rw [upd_same] at eX0
      clear hE
      replace eX0 : G3 X0 = some (.tup [.ref fU, .ref fV]) := eX0
      refine ⟨X0, rfl, ⟨_, SqT.of eX0⟩, fun D hD => mets_it (word := "stand") (v := v) eX0 hD (by show 2 ≤ 10; decide) (t2.ext sG3) (fun _ => rfl) (fun x hx G Q en tG qq => ?_) fun G5 ps en5 t5 hF1 hps1 hr1 => ?_⟩
      · obtain ⟨f1, sp, rfl, hS, hS2⟩ : ∃ f1 sp, x = .ref f1 ∧ AskA K C CP CS TT fU fV fY f1 sp ∧ ((f1 = fU ∧ sp = spPhotoOf K C CP CS TT) ∨ (f1 = fV ∧ sp = spLapsOf K C CP CS)) := by
          simp only [List.mem_cons, List.not_mem_nil, or_false] at hx
          rcases hx with rfl | rfl
          · exact ⟨_, _, rfl, .inl ⟨rfl, rfl⟩, .inl ⟨rfl, rfl⟩⟩
          · exact ⟨_, _, rfl, .inr (.inl ⟨rfl, rfl⟩), .inr ⟨rfl, rfl⟩⟩
        refine one_metT (K := K) (CP := CP) (CS := CS) (CF := CF) (CL := CL) (CE := CM) (Cx := CS) (fld := "stand") (word := "stand") (v := v) tG hwS (fun G6 Q' E' en6 tG6 hE => ?_) qq
        have enx : ExtN Gc G6 := en2.trans ((ExtN.of sG3).trans (en.trans en6))
        exact ⟨f1, sp, rfl, hS, _, rfl, _, rfl, ask_stand (fY := fY) hS2 tG6 (pathT (enGc.trans enx) hp8) hnd h2 h20 (hbv.extN enx) hE⟩
      have enx : ExtN Gc G5 := en2.trans ((ExtN.of sG3).trans en5)
      refine ⟨_, rfl, by show 2 ≤ sizeLine; decide, fun u hu2 => ?_⟩
      generalize hE : upd G5 u _ = M1
      have sM1 : Same G5 M1 := hE ▸ same_upd hu2
      have eu := congrFun hE.symm u
      rw [upd_same] at eu
      clear hE
      refine ⟨by show 1 ≤ sizeLine; decide, fun y1 hy1 => ?_⟩
      generalize hE : upd M1 y1 _ = M2
      have sM2 : Same M1 M2 := hE ▸ same_upd hy1
      have ey1 := congrFun hE.symm y1
      rw [upd_same] at ey1
      clear hE
      refine ⟨y1, 2, _, rfl, rfl, ey1, by decide, by decide, by show 1 * 2 ≤ sizeLine; decide, fun qq hq => ?_⟩
      generalize hE : upd M2 qq _ = M3
      have sM3 : Same M2 M3 := hE ▸ same_upd hq
      have eqq := congrFun hE.symm qq
      rw [upd_same] at eqq
      clear hE
      have sM : Same G5 M3 := sM1.trans (sM2.trans sM3)
      have hsm : SameD G5 6 v v := by
        obtain ⟨_, _, h, _⟩ := hbv
        exact h.extN enx
      refine ⟨_, .ref qq, rfl, same_rep (n := 2) (t := u) (word := "stand") (v := v) (ps := ps) (sM _ _ hF1) (fun r hr => sM _ _ (hr1 r hr)) hps1 (by decide) eqq (sM3 _ _ (sM2 _ _ eu)) (by decide) (hsm.mono sM), fun G11 s11 => ⟨true, rfl, iteF ?_⟩⟩
      exact ⟨_, _, rfl, enx.trans (ExtN.of (sM.trans s11)), t5.ext (sM.trans s11)⟩
    rintro σ G2 ⟨w6'', w7'', rfl, en2, t2⟩
    have enG2 : ExtN H8 G2 := enGc.trans en2
    -- what is no photo
    have hn2' := enG2 _ _ hn8 nt_l
    refine ⟨_, rfl, n, zs, rfl, hn2', hnd, hpool, h2, h20, fun l3 os3 Gd hld hld0 hod hos3 sd => ?_⟩
    have enGd : ExtN H8 Gd := enG2.trans (ExtN.of sd)
    have td : Tabs TT Gd := t2.ext sd
    refine ⟨l3, rfl, ⟨_, SqL.of hld⟩, for_list (xs := os3) (fun i σ G' => ∃ w6 w7, σ = [some (.ref a), some (.ref n), some (.ref p), some (.ref r), some (.ref d), some (.ref ph), w6, w7, none, none, none, none, none, none] ∧ ExtN Gd G' ∧ Tabs TT G')
      ⟨_, _, rfl, ExtN.refl _, td⟩ (fun i σ G' _ ⟨_, _, _, b, _⟩ => SqL.of (b _ _ hld nt_l)) ?_ ?_⟩
    · rintro j v σ G3 hv ⟨w6x, w7x, rfl, en3, t3⟩
      have hbv := hos3 v (List.mem_of_getElem? hv)
      refine st_name ?_
      refine ⟨by show 2 ≤ sizeLine; decide, fun X0 hX0 => ?_⟩
      generalize hE : upd G3 X0 _ = G4
      have sG4 : Same G3 G4 := hE ▸ same_upd hX0
      have eX0 := congrFun hE.symm X0
      rw [upd_same] at eX0
      clear hE
      replace eX0 : G4 X0 = some (.tup [.ref fZ, .ref fT]) := eX0
      refine ⟨X0, rfl, ⟨_, SqT.of eX0⟩, fun D hD => mets_it (word := "photo") (v := v) eX0 hD (by show 2 ≤ 10; decide) (t3.ext sG4) (fun _ => rfl) (fun x hx G Q en tG qq => ?_) fun G5 ps en5 t5 hF1 hps1 hr1 => ?_⟩
      · obtain ⟨f1, sp, rfl, hS⟩ : ∃ f1 sp, x = .ref f1 ∧ AskB K C CP CF CL CM fZ fT f1 sp := by
          simp only [List.mem_cons, List.not_mem_nil, or_false] at hx
          rcases hx with rfl | rfl
          · exact ⟨_, _, rfl, .inl ⟨rfl, rfl⟩⟩
          · exact ⟨_, _, rfl, .inr ⟨rfl, rfl⟩⟩
        refine one_metT (K := K) (CP := CP) (CS := CS) (CF := CF) (CL := CL) (CE := CM) (Cx := CF) (fld := "photo") (word := "photo") (v := v) tG hwF (fun G6 Q' E' en6 tG6 hE => ?_) qq
        have enx : ExtN Gd G6 := en3.trans ((ExtN.of sG4).trans (en.trans en6))
        exact ⟨f1, sp, rfl, hS, _, rfl, _, rfl, ask_photo hS (pathT (enGd.trans enx) hp8) hnd h2 h20 (hbv.extN enx) hE⟩
      refine st_name ?_
      have enx : ExtN Gd G5 := en3.trans ((ExtN.of sG4).trans en5)
      refine ⟨_, rfl, ?_⟩
      refine ⟨_, rfl, by show 2 ≤ sizeLine; decide, fun u hu2 => ?_⟩
      generalize hE : upd G5 u _ = M1
      have sM1 : Same G5 M1 := hE ▸ same_upd hu2
      have eu := congrFun hE.symm u
      rw [upd_same] at eu
      clear hE
      refine ⟨by show 1 ≤ sizeLine; decide, fun y1 hy1 => ?_⟩
      generalize hE : upd M1 y1 _ = M2
      have sM2 : Same M1 M2 := hE ▸ same_upd hy1
      have ey1 := congrFun hE.symm y1
      rw [upd_same] at ey1
      clear hE
      refine ⟨y1, 2, _, rfl, rfl, ey1, by decide, by decide, by show 1 * 2 ≤ sizeLine; decide, fun qq hq => ?_⟩
      generalize hE : upd M2 qq _ = M3
      have sM3 : Same M2 M3 := hE ▸ same_upd hq
      have eqq := congrFun hE.symm qq
      rw [upd_same] at eqq
      clear hE
      have sM : Same G5 M3 := sM1.trans (sM2.trans sM3)
      have hsm : SameD G5 6 v v := by
        obtain ⟨_, _, h, _⟩ := hbv
        exact h.extN enx
      refine ⟨_, .ref qq, rfl, same_rep (n := 2) (t := u) (word := "photo") (v := v) (ps := ps) (sM _ _ hF1) (fun r hr => sM _ _ (hr1 r hr)) hps1 (by decide) eqq (sM3 _ _ (sM2 _ _ eu)) (by decide) (hsm.mono sM), fun G11 s11 => ⟨true, rfl, iteF ?_⟩⟩
      have enx2 : ExtN Gd G11 := enx.trans (ExtN.of (sM.trans s11))
      refine ⟨_, rfl, _, rfl, st_nil (is_no_photo (pathT (enGd.trans enx2) hp8) hnd h2 h20 (hbv.extN enx2) fun G12 s12 => ?_)⟩
      refine ⟨false, false, rfl, rfl, _, rfl, iteF ?_⟩
      exact ⟨_, _, rfl, enx2.trans (ExtN.of s12), t5.ext (sM.trans (s11.trans s12))⟩
    rintro σ G3 ⟨w6x, w7x, rfl, en3, t3⟩
    have enG3 : ExtN H8 G3 := enGd.trans en3
    -- laps
    have hn3' := enG3 _ _ hn8 nt_l
    have hr3 := enG3 _ _ hr8 nt_l
    refine ⟨_, rfl, ?_⟩
    refine ⟨_, rfl, r, rfl, ⟨_, SqL.of hr3⟩, fun D2 hD2 => ?_⟩
    refine lc_it (walk_list (K := K) (a := r) (xs := rs.map V.int)) (fun j B2 => Same G3 B2 ∧ B2 D2 = some (.lst (((lapsR zs.length rs).take j).map V.int))) ⟨same_upd hD2, upd_same⟩ (fun j B2 _ p => SqL.of (p.1 _ _ hr3)) ?_ ?_
    · rintro j x B2 B3 hj ⟨s2, hacc2⟩ ⟨rfl, hx⟩
      rw [List.length_map] at hj
      obtain ⟨y, hy, rfl⟩ := get_map hx
      refine ⟨rfl, tyes ?_⟩
      refine ⟨_, rfl, _, rfl, n, _, rfl, .inl (SqL.of (s2 _ _ hn3')), ?_⟩
      rw [hll]
      refine ⟨_, _, rfl, rfl, ⟨by omega, by omega⟩, ?_⟩
      have hjr : j < (lapsR zs.length rs).length := by rw [lapsR_len]; exact hj
      have ey : (lapsR zs.length rs)[j] = y / (zs.length : Int) := by
        rw [List.getElem?_eq_getElem hj] at hy
        rw [← Option.some.inj hy]
        exact List.getElem_map _
      refine ⟨_, hacc2, ?_, fun b o e => by rw [upd_ne (ne_of_none e hD2)]; exact s2 _ _ e, ?_⟩
      · rw [List.length_map, List.length_take]
        exact Nat.lt_of_le_of_lt (Nat.min_le_left _ _) (Nat.lt_of_lt_of_le hj (by rw [hro.1]; exact Nat.le_trans h20 (by decide)))
      · rw [upd_same, List.take_succ_eq_append_getElem hjr, List.map_append, ey]
        rfl
    rintro A4 ⟨s4, hD4⟩
    rw [List.length_map, List.take_of_length_le (by rw [lapsR_len]; exact Nat.le_refl _)] at hD4
    have lapl : (lapsR zs.length rs).length = zs.length := by rw [lapsR_len]; exact hro.1
    refine st_nil ⟨n, D2, zs, lapsR zs.length rs, rfl, s4 _ _ hn3', hD4, lapl, hnd, hl, fun lp A5 hlp0 hlp1 s5 => ?_⟩
    have enA : ExtN H8 A5 := enG3.trans (ExtN.of (s4.trans s5))
    have tA : Tabs TT A5 := t3.ext (s4.trans s5)
    have hnA := enA _ _ hn8 nt_l
    generalize hgl : rowG zs (lapsR zs.length rs) = gl at hlp1
    -- odds
    obtain ⟨z0, hz0⟩ : ∃ z0, zs[0]? = some z0 := ⟨_, List.getElem?_eq_getElem (by omega)⟩
    have hz0i : z0 ∈ zs := List.mem_of_getElem? hz0
    have hz0m : (zs.map V.str)[0]? = some (.str z0) := by rw [List.getElem?_map, hz0]; rfl
    have hsz : ∀ {k : Nat}, k ≤ 1001 → k < sizeLine := fun h => Nat.lt_of_le_of_lt h (by decide)
    have kvl : ∀ {l : List Str} {f : Str → Int}, (kvOf l f).length = l.length := List.length_map _
    have kvq : ∀ {l : List Str} {f : Str → Int} {G : Hp}, (∀ z ∈ l, z.length ≤ 1000) → ∀ kv ∈ kvOf l f, keyOk kv.1 ∧ ValQ G kv.2 := fun {l f G} h kv hm => by
      obtain ⟨y, hy, rfl⟩ := List.mem_map.mp hm
      exact ⟨h y hy, .int _⟩
    refine ⟨by show 0 ≤ sizeLine; decide, fun p1 hp1 => ?_⟩
    generalize hE : upd A5 p1 _ = J1
    have sJ1 : Same A5 J1 := hE ▸ same_upd hp1
    have ep1 := congrFun hE.symm p1
    rw [upd_same] at ep1
    clear hE
    refine fun p2 hp2 => ?_
    generalize hE : upd J1 p2 _ = J2
    have sJ2 : Same J1 J2 := hE ▸ same_upd hp2
    have ep2 := congrFun hE.symm p2
    rw [upd_same] at ep2
    clear hE
    have s22 : Same A5 J2 := sJ1.trans sJ2
    refine ⟨_, rfl, lp, _, rfl, s22 _ _ hlp1, fun J3 p3 ts3 (s3 : Same J2 J3) hp3 hts3 hpt3 e3 pr3 => ?_⟩
    have s23 := s22.trans s3
    refine ⟨_, rfl, lp, _, rfl, s23 _ _ hlp1, fun J4 p4 ts4 (s4' : Same J3 J4) hp4 hts4 hpt4 e4 pr4 => ?_⟩
    refine ⟨_, rfl, no_partK ⟨p4, _, rfl, SqL.of e4, fun s1 hs1 => ?_⟩⟩
    rw [show cutV (ts4.map V.ref) (some 1) none = (ts4.map V.ref).drop 1 from cut_from (k := 1)]
    replace hs1 : J4 s1 = none := hs1
    generalize hE : upd J4 s1 _ = J5
    have sJ5 : Same J4 J5 := hE ▸ same_upd hs1
    have es1 := congrFun hE.symm s1
    rw [upd_same] at es1
    clear hE
    replace es1 : J5 s1 = some (.lst ((ts4.drop 1).map V.ref)) := by rw [List.map_drop]; exact es1
    have hrn : (zs.drop 1).Nodup := hnd.sublist (List.drop_sublist _ _)
    have hrz : ∀ z ∈ zs.drop 1, z.length ≤ 1000 := fun z hz => hzl z (List.mem_of_mem_drop hz)
    have hrl : (zs.drop 1).length + 1 = zs.length := by rw [List.length_drop]; omega
    have pr5 : Paired (fun (t : Addr) (kv : Key × V) => J4 t = some (.tup [kV kv.1, kv.2])) (ts4.drop 1) (kvOf (zs.drop 1) gl) := by
      rw [show kvOf (zs.drop 1) gl = (kvOf zs gl).drop 1 from List.map_drop]
      exact paired_drop1 pr4
    refine ⟨s1, ts4.drop 1, kvOf (zs.drop 1) gl, rfl, SqL.of es1, Paired.mono (fun t kv h => SqT.of (sJ5 _ _ h)) pr5, fun e9 he9 => ?_⟩
    rw [merge_self (by rw [keys_kv]; exact nodup_keys hrn)]
    generalize hE : upd J5 e9 _ = J6
    have sJ6 : Same J5 J6 := hE ▸ same_upd he9
    have ee9 := congrFun hE.symm e9
    rw [upd_same] at ee9
    clear hE
    refine ⟨by show 8 ≤ sizeLine; decide, fun OD hOD => ?_⟩
    generalize hE : upd J6 OD _ = J7
    have sJ7 : Same J6 J7 := hE ▸ same_upd hOD
    have eOD := congrFun hE.symm OD
    rw [upd_same] at eOD
    clear hE
    have s36 : Same J3 J6 := s4'.trans (sJ5.trans sJ6)
    have s26 : Same A5 J6 := s23.trans s36
    have bad6 : ∀ v ∈ [V.non, .int 5, .str "ab", .ref p1, .ref p2, .bl true, .ref p3, .ref e9], BadV K (fun kvs => dictB zs kvs = false) J6 v := fun v hv => by
      simp only [List.mem_cons, List.not_mem_nil, or_false] at hv
      rcases hv with rfl | rfl | rfl | rfl | rfl | rfl | rfl | rfl
      · exact .non
      · exact .int
      · exact .str (by decide)
      · exact .lst (s36 _ _ (s3 _ _ (sJ2 _ _ ep1)))
      · exact .dct (s36 _ _ (s3 _ _ ep2)) (by decide) (fun _ z => nomatch z) (no_len (by show 0 ≠ zs.length; omega))
      · exact .bl
      · exact (BadV.pairs e3 pr3 (by rw [kvl]; omega) fun kv hm => by
          obtain ⟨y, hy, rfl⟩ := List.mem_map.mp hm
          exact ⟨⟨y, rfl, hzl y hy⟩, _, rfl⟩).mono s36
      · exact .dct ee9 (by rw [kvl]; omega) (kvq hrz) (no_len (by rw [kvl]; omega))
    have bad7 : ∀ v ∈ [V.non, .int 5, .str "ab", .ref p1, .ref p2, .bl true, .ref p3, .ref e9], BadV K (fun kvs => dictB zs kvs = false) (no J7 OD) v := fun v hv => (bad6 v hv).mono fun b o h => no_at (sJ7 _ _ h) (ne_of_none h hOD)
    have ol : [V.non, .int 5, .str "ab", .ref p1, .ref p2, .bl true, .ref p3, .ref e9].length = 8 := rfl
    replace eOD : J7 OD = some (.lst [V.non, .int 5, .str "ab", .ref p1, .ref p2, .bl true, .ref p3, .ref e9]) := eOD
    generalize [V.non, .int 5, .str "ab", .ref p1, .ref p2, .bl true, .ref p3, .ref e9] = os0 at bad7 eOD ol
    have hOD2 : ∀ {b : Addr} {o : HO}, A5 b = some o → b ≠ OD := fun h => ne_of_none (s26 _ _ h) hOD
    refine st_name ?_
    -- one more
    refine app_items (σ := [some (.ref a), some (.ref n), some (.ref p), some (.ref r), some (.ref d), some (.ref ph), w6x, w7x, some (.ref lp), some (.ref OD), none, none, none, none]) (jF := 9) (jd := 8) (F := OD) (d := lp) (us := os0) (kvs := kvOf zs gl) (added := [((Sum.inr "no1" : Key), V.int 0)]) rfl rfl eOD (hsz (by omega)) (sJ7 _ _ (s26 _ _ hlp1)) (by rw [kvl]; show zs.length + 1 ≤ 1000; omega)
      (fun G1 Q s1 qq => add_oneH (z := "no1") (v := .int 0) (fun Q h => h) (fun G2 Q s h => h) qq) fun f8 J8 s8 ee8 he8 => ?_
    have f8F : f8 ≠ OD := Ne.symm (ne_of_none eOD he8)
    have nno : ("no1" : Str) ∉ zs := fun h => no1_poolS (hpool _ h)
    have ndS : (zs ++ [("no1" : Str)]).Nodup := List.nodup_append.mpr ⟨hnd, List.nodup_cons.mpr ⟨List.not_mem_nil, List.nodup_nil⟩, fun x hx y hy e => nno (by rw [← List.mem_singleton.mp hy, ← e]; exact hx)⟩
    obtain ⟨g8, eg8⟩ : ∃ g8 : Str → Int, kvOf zs gl ++ [((Sum.inr "no1" : Key), V.int 0)] = kvOf (zs ++ [("no1" : Str)]) g8 := ⟨fun z => if z = "no1" then 0 else gl z, by
      unfold kvOf
      rw [List.map_append]
      congr 1
      exact List.map_congr_left fun z hz => by
        show ((Sum.inr z : Key), V.int (gl z)) = (Sum.inr z, V.int (if z = "no1" then 0 else gl z))
        rw [if_neg (fun e => nno (by rw [← e]; exact hz))]⟩
    rw [eg8, merge_self (by rw [keys_kv]; exact nodup_keys ndS)] at ee8
    have bad8 := bad_more bad7 (Same.but s8) (.dct (no_at ee8 f8F) (by rw [kvl, List.length_append]; show zs.length + 1 ≤ 1000; omega) (kvq fun z hz => by
      rcases List.mem_append.mp hz with h | h
      · exact hzl z h
      · rw [List.mem_singleton.mp h]; decide) (no_len (zs := zs) (by rw [kvl, List.length_append]; show zs.length + 1 ≠ zs.length; omega)))
    have b79 : But OD J7 (upd J8 OD (.lst (os0 ++ [.ref f8]))) := fun b o hb e => by rw [upd_ne hb]; exact s8 _ _ e
    have eOD9 : (upd J8 OD (.lst (os0 ++ [.ref f8]))) OD = some (.lst (os0 ++ [.ref f8])) := upd_same
    have ol9 : (os0 ++ [V.ref f8]).length = 9 := by rw [List.length_append, ol]; rfl
    generalize os0 ++ [V.ref f8] = os9 at bad8 b79 eOD9 ol9
    generalize upd J8 OD (.lst os9) = J9 at bad8 b79 eOD9
    have keep9 : ∀ {b : Addr} {o : HO}, A5 b = some o → J9 b = some o := fun h => b79 _ _ (hOD2 h) (sJ7 _ _ (s26 _ _ h))
    have hn9 := keep9 hnA
    -- dicts with something that is no number
    refine ⟨_, rfl, .inl ⟨rfl, _, SqL.of eOD9⟩, ?_⟩
    refine ⟨by show 1 ≤ sizeLine; decide, fun q0 hq0 => ?_⟩
    generalize hE : upd J9 q0 _ = J10
    have sJ10 : Same J9 J10 := hE ▸ same_upd hq0
    have eq0 := congrFun hE.symm q0
    rw [upd_same] at eq0
    clear hE
    replace eq0 : J10 q0 = some (.lst [.int 0]) := eq0
    refine ⟨by show 4 ≤ sizeLine; decide, fun T2 hT2 => ?_⟩
    generalize hE : upd J10 T2 _ = J11
    have sJ11 : Same J10 J11 := hE ▸ same_upd hT2
    have eT2 := congrFun hE.symm T2
    rw [upd_same] at eT2
    clear hE
    have s911 := sJ10.trans sJ11
    have eOD11 := s911 _ _ eOD9
    have hn11 := s911 _ _ hn9
    have q0F : q0 ≠ OD := Ne.symm (ne_of_none eOD9 hq0)
    have T2F : T2 ≠ OD := Ne.symm (ne_of_none (sJ10 _ _ eOD9) hT2)
    have eq011 := sJ11 _ _ eq0
    replace eT2 : J11 T2 = some (.tup [V.non, .bl true, .str "0", .ref q0]) := eT2
    have oddOk : ∀ v ∈ [V.non, .bl true, .str "0", .ref q0], ValQ (no J11 OD) v ∧ intB v = false := fun v hv => by
      simp only [List.mem_cons, List.not_mem_nil, or_false] at hv
      rcases hv with rfl | rfl | rfl | rfl
      · exact ⟨.non, rfl⟩
      · exact ⟨.bl true, rfl⟩
      · exact ⟨.str (by decide), rfl⟩
      · exact ⟨.lst (no_at eq011 q0F), rfl⟩
    have u4l : [V.non, .bl true, .str "0", .ref q0].length = 4 := rfl
    refine ⟨T2, rfl, ⟨_, SqT.of eT2⟩, fun D3 hD3 => ?_⟩
    generalize [V.non, .bl true, .str "0", .ref q0] = os8 at oddOk eT2 u4l
    refine lc_it (walk_tup (K := K) (a := T2) (xs := os8)) (fun j G' => Same J11 G' ∧ ∃ es : List V, es.length = j ∧ G' D3 = some (.lst es) ∧ ∀ v ∈ es, BadV K (fun kvs => dictB zs kvs = false) (no (no G' OD) D3) v) ⟨same_upd hD3, [], rfl, upd_same, (fun _ z => nomatch z)⟩ (fun j G' _ p => SqT.of (p.1 _ _ eT2)) ?_ ?_
    · rintro j x G' G'' hj ⟨sG, es, hes, hacc, hbd⟩ ⟨rfl, hx⟩
      obtain ⟨hvq, hni⟩ := oddOk x (List.mem_of_getElem? hx)
      have hnG := sG _ _ hn11
      refine ⟨rfl, tyes ?_⟩
      refine ⟨_, rfl, n, rfl, ⟨_, SqL.of hnG⟩, fun D hD => dictA_it (f := fun z => if z = z0 then x else .int 0) hnG hD hl (fun _ => rfl) (fun _ _ _ h => ⟨_, rfl, h⟩) (fun z hz G Q s qq => ?_) fun G6 ts s6 hacc6 hpr => ?_⟩
      · have q0 : Q (if z = z0 then x else .int 0) G := qq G (Same.refl G)
        refine ⟨_, rfl, _, rfl, n, _, 0, _, rfl, rfl, SqL.of (s _ _ hnG), (show atI _ ((0 : Nat) : Int) = _ from atI_nat hz0m), rfl, _, rfl, ?_⟩
        refine ite2S (fun hh => ?_) (fun hh => ?_)
        · have h : z = z0 := V.str.inj (of_decide_eq_true hh)
          rw [if_pos h] at q0
          exact ⟨_, rfl, q0⟩
        · have h : ¬ z = z0 := fun e => of_decide_eq_false hh (congrArg V.str e)
          rw [if_neg h] at q0
          exact q0
      refine st_nil ⟨D, ts, _, rfl, SqL.of hacc6, Paired.mono (fun t kv h => SqT.of h) hpr, fun e5 he5 => ?_⟩
      rw [merge_kvV hnd]
      generalize hE : upd G6 e5 _ = G7
      have sG7 : Same G6 G7 := hE ▸ same_upd he5
      have ee5 := congrFun hE.symm e5
      rw [upd_same] at ee5
      clear hE
      have s07 := s6.trans sG7
      have e5F : e5 ≠ OD := Ne.symm (ne_of_none (s6 _ _ (sG _ _ eOD11)) he5)
      have e5D : e5 ≠ D3 := Ne.symm (ne_of_none (s6 _ _ hacc) he5)
      have kept : ∀ b o, b ≠ D3 → G7 b = some o → (upd G7 D3 (.lst (es ++ [.ref e5]))) b = some o := fun b o hb e => by rw [upd_ne hb]; exact e
      have kok := kv_ok (H := no (no (upd G7 D3 (.lst (es ++ [.ref e5]))) OD) D3) (f := fun z => if z = z0 then x else .int 0) hzl fun z _ => by
        show ValQ _ (if z = z0 then x else V.int 0)
        split
        · exact hvq.mono fun b o e => by
            obtain ⟨hb, e⟩ := no_of e
            have hb3 : b ≠ D3 := ne_of_none e hD3
            exact no_at (no_at (kept b o hb3 (s07 _ _ (sG _ _ e))) hb) hb3
        · exact .int _
      refine ⟨_, s07 _ _ hacc, by rw [hes]; exact Nat.lt_of_lt_of_le hj (by rw [u4l]; decide), fun b o e => kept b o (ne_of_none e hD3) (s07 _ _ (sG _ _ e)), es ++ [.ref e5], by rw [List.length_append, hes]; rfl, upd_same, fun v hv => ?_⟩
      rcases List.mem_append.mp hv with h | h
      · exact (hbd v h).mono fun b o e => by
          obtain ⟨hb3, e⟩ := no_of e
          obtain ⟨hb, e⟩ := no_of e
          exact no_at (no_at (kept b o hb3 (s07 _ _ e)) hb) hb3
      · rw [List.mem_singleton.mp h]
        exact .dct (no_at (no_at (kept _ _ e5D ee5) e5F) e5D) (by rw [kvV_len]; exact hl) kok (no_int hz0i (by rw [kvV_val hz0i]; exact congrArg some (if_pos rfl)) hni)
    rintro GX ⟨sX, es, hes, haccX, hbd⟩
    have hODX := sX _ _ eOD11
    have D3F : D3 ≠ OD := Ne.symm (ne_of_none eOD11 hD3)
    refine st_nil ⟨OD, D3, _, _, rfl, rfl, hODX, haccX, by rw [hes, u4l, ol9]; show 9 + 4 ≤ sizeLine; decide, ?_⟩
    have eODn : (upd GX OD (.lst (os9 ++ es))) OD = some (.lst (os9 ++ es)) := upd_same
    have bX : But OD GX (upd GX OD (.lst (os9 ++ es))) := But.upd
    generalize upd GX OD (.lst (os9 ++ es)) = G9 at eODn bX ⊢
    have bad9 : ∀ v ∈ os9 ++ es, BadV K (fun kvs => dictB zs kvs = false) G9 v := fun v hv => by
      rcases List.mem_append.mp hv with h | h
      · exact (bad8 v h).mono fun b o e => by
          obtain ⟨hb, e⟩ := no_of e
          exact bX _ _ hb (sX _ _ (s911 _ _ e))
      · exact (hbd v h).mono fun b o e => by
          obtain ⟨hb3, e⟩ := no_of e
          obtain ⟨hb, e⟩ := no_of e
          exact bX _ _ hb e
    have s2n : Same A5 G9 := fun b o e => bX _ _ (hOD2 e) (sX _ _ (s911 _ _ (keep9 e)))
    generalize os9 ++ es = us4 at bad9 eODn
    -- what are no laps
    have tn := tA.ext s2n
    have enn : ExtN H8 G9 := enA.trans (ExtN.of s2n)
    have hpn := pathT enn hp8
    have hphn := enn _ _ hph8 nt_l
    refine ⟨_, rfl, OD, rfl, ⟨_, SqL.of eODn⟩, for_list (xs := us4) (fun i σ G' => ∃ w6, σ = [some (.ref a), some (.ref n), some (.ref p), some (.ref r), some (.ref d), some (.ref ph), w6, w7x, some (.ref lp), some (.ref OD), none, none, none, none] ∧ ExtN G9 G' ∧ Tabs TT G')
      ⟨_, rfl, ExtN.refl _, tn⟩ (fun i σ G' _ ⟨_, _, b, _⟩ => SqL.of (b _ _ eODn nt_l)) ?_ ?_⟩
    · rintro j v σ G4 hv ⟨w6y, rfl, en4, t4⟩
      have hbv := bad9 v (List.mem_of_getElem? hv)
      refine st_name (one_met (σ := [some (.ref a), some (.ref n), some (.ref p), some (.ref r), some (.ref d), some (.ref ph), some v, w7x, some (.ref lp), some (.ref OD), none, none, none, none]) (H := G4) (K := K) (CP := CP) (CS := CS) (CF := CF) (CL := CL) (CE := CM) (Cx := CL) (fld := "laps") (word := "laps") (v := v) t4 hwL (fun G5 Q' E' en5 hE => ?_) ?_)
      · refine ⟨_, rfl, _, rfl, _, rfl, ?_⟩
        show spStOfLaps K C CP CF CL [.ref p, .ref ph, v] G5 Q' E'
        exact laps_bad (pathT (en4.trans en5) hpn) hnd h2 h20 hzl ((en4.trans en5) _ _ hphn nt_l) hpo (hbv.extN (en4.trans en5)) hE
      intro qa G5 en5x tG5 gq
      have en5 : ExtN G9 G5 := en4.trans en5x
      refine ⟨_, rfl, by show 2 ≤ sizeLine; decide, fun u hu2 => ?_⟩
      generalize hE : upd G5 u _ = G6
      have sG6 : Same G5 G6 := hE ▸ same_upd hu2
      have eu := congrFun hE.symm u
      rw [upd_same] at eu
      clear hE
      have hsm : SameD G5 6 v v := by
        obtain ⟨_, _, h, _⟩ := hbv
        exact h.extN en5
      refine ⟨.ref qa, .ref u, rfl, (same_pair (sG6 _ _ gq) eu (by decide) (hsm.mono sG6)).up 1, fun G8 s8 => ⟨true, rfl, iteF ?_⟩⟩
      exact ⟨_, rfl, en5.trans (ExtN.of (sG6.trans s8)), tG5.ext (sG6.trans s8)⟩
    rintro σ G4 ⟨w6y, rfl, en4, t4⟩
    -- what is no number of turns
    have enM : ExtN H8 G4 := enn.trans en4
    have hnM := enM _ _ hn8 nt_l
    refine ⟨_, rfl, _, rfl, n, _, rfl, .inl (SqL.of hnM), ?_⟩
    rw [hll]
    refine ⟨by show 1 ≤ sizeLine; decide, fun q1 hq1 => ?_⟩
    generalize hE : upd G4 q1 _ = M1
    have sM1 : Same G4 M1 := hE ▸ same_upd hq1
    have eq1 := congrFun hE.symm q1
    rw [upd_same] at eq1
    clear hE
    replace eq1 : M1 q1 = some (.lst [.int 0]) := eq1
    refine fun q2 hq2 => ?_
    generalize hE : upd M1 q2 _ = M2
    have sM2 : Same M1 M2 := hE ▸ same_upd hq2
    have eq2 := congrFun hE.symm q2
    rw [upd_same] at eq2
    clear hE
    refine ⟨_, _, rfl, rfl, by unfold CPow; decide, by show 8 ≤ sizeLine; decide, fun T5 hT5 => ?_⟩
    generalize hE : upd M2 T5 _ = M3
    have sM3 : Same M2 M3 := hE ▸ same_upd hT5
    have eT5 := congrFun hE.symm T5
    rw [upd_same] at eT5
    clear hE
    replace eT5 : M3 T5 = some (.tup [V.non, .bl true, .int (-1), .int (zs.length : Nat), .str "0", .ref q1, .ref q2, .int (10 ^ (6 : Int).toNat)]) := eT5
    have s03 : Same G4 M3 := sM1.trans (sM2.trans sM3)
    have manyOk : ∀ v ∈ [V.non, .bl true, .int (-1), .int (zs.length : Nat), .str "0", .ref q1, .ref q2, .int (10 ^ (6 : Int).toNat)], BadV K (fun _ => True) M3 v ∧ manyB zs v = false := fun v hv => by
      simp only [List.mem_cons, List.not_mem_nil, or_false] at hv
      have hz20 : (zs.length : Int) ≤ 20 := by omega
      rcases hv with rfl | rfl | rfl | rfl | rfl | rfl | rfl | rfl
      · exact ⟨.non, rfl⟩
      · exact ⟨.bl, rfl⟩
      · exact ⟨.int, rfl⟩
      · exact ⟨.int, by show (decide ((0 : Int) ≤ (zs.length : Int)) && decide ((zs.length : Int) < (zs.length : Int))) = false; rw [decide_eq_false (Int.lt_irrefl _), Bool.and_false]⟩
      · exact ⟨.str (by decide), rfl⟩
      · exact ⟨.lst1 (sM3 _ _ (sM2 _ _ eq1)), rfl⟩
      · exact ⟨.dct (sM3 _ _ eq2) (by decide) (fun _ z => nomatch z) trivial, rfl⟩
      · exact ⟨.int, by show (decide ((0 : Int) ≤ (10 : Int) ^ (6 : Int).toNat) && decide ((10 : Int) ^ (6 : Int).toNat < (zs.length : Int))) = false; rw [show ((10 : Int) ^ (6 : Int).toNat) = 1000000 from rfl, decide_eq_false (show ¬ (1000000 : Int) < (zs.length : Int) by omega), Bool.and_false]⟩
    have enM3 := enM.trans (ExtN.of s03)
    have tM3 := t4.ext s03
    have hpM := pathT enM3 hp8
    have hphM := enM3 _ _ hph8 nt_l
    refine ⟨T5, rfl, ⟨_, SqT.of eT5⟩, ?_⟩
    generalize [V.non, .bl true, .int (-1), .int (zs.length : Nat), .str "0", .ref q1, .ref q2, .int (10 ^ (6 : Int).toNat)] = us8 at manyOk eT5
    refine for_tup (xs := us8) (fun i σ G' => ∃ w6, σ = [some (.ref a), some (.ref n), some (.ref p), some (.ref r), some (.ref d), some (.ref ph), w6, w7x, some (.ref lp), some (.ref OD), none, none, none, none] ∧ ExtN M3 G' ∧ Tabs TT G')
      ⟨_, rfl, ExtN.refl _, tM3⟩ (fun i σ G' _ ⟨_, _, b, _⟩ => SqT.of (b _ _ eT5 nt_t)) ?_ ?_
    · rintro j v σ G5 hv ⟨w6z, rfl, en5, t5⟩
      obtain ⟨⟨kv9, hth, hsm, _⟩, hmb⟩ := manyOk v (List.mem_of_getElem? hv)
      refine st_name (one_met (σ := [some (.ref a), some (.ref n), some (.ref p), some (.ref r), some (.ref d), some (.ref ph), some v, w7x, some (.ref lp), some (.ref OD), none, none, none, none]) (H := G5) (K := K) (CP := CP) (CS := CS) (CF := CF) (CL := CL) (CE := CM) (Cx := CM) (fld := "many") (word := "many") (v := v) t5 hwM (fun G6 Q' E' en6 hE => ?_) ?_)
      · refine ⟨_, rfl, _, rfl, _, rfl, ?_⟩
        show spPhotoTurned K C CP CF CM [.ref p, .ref ph, v] G6 Q' E'
        exact many_bad (pathT (en5.trans en6) hpM) hnd h2 h20 hzl ((en5.trans en6) _ _ hphM nt_l) hpo (hth.extN (en5.trans en6)) hmb hE
      intro qa G6 en6x tG6 gq
      have en6 : ExtN M3 G6 := en5.trans en6x
      refine ⟨_, rfl, by show 2 ≤ sizeLine; decide, fun u hu2 => ?_⟩
      generalize hE : upd G6 u _ = G7
      have sG7 : Same G6 G7 := hE ▸ same_upd hu2
      have eu := congrFun hE.symm u
      rw [upd_same] at eu
      clear hE
      refine ⟨.ref qa, .ref u, rfl, (same_pair (sG7 _ _ gq) eu (by decide) ((hsm.extN en6).mono sG7)).up 1, fun G8 s8 => ⟨true, rfl, iteF ?_⟩⟩
      exact ⟨_, rfl, en6.trans (ExtN.of (sG7.trans s8)), tG6.ext (sG7.trans s8)⟩
    rintro σ G5 ⟨w6z, rfl, en5, t5⟩
    -- what is held
    have enn4 := enM3.trans en5
    refine ⟨by show 1 ≤ sizeLine; decide, fun hv hhv => ?_⟩
    generalize hE : upd G5 hv _ = GE
    have sGE : Same G5 GE := hE ▸ same_upd hhv
    have ehv := congrFun hE.symm hv
    rw [upd_same] at ehv
    clear hE
    replace ehv : GE hv = some (.lst [.str "x"]) := ehv
    have tE := t5.ext sGE
    have enE : ExtN H8 GE := enn4.trans (ExtN.of sGE)
    have smh : SameD GE 6 (.ref hv) (.ref hv) := SameD.lst (n := 5) ehv ehv rfl (by show 1 ≤ 1000; decide) (fun i x y e1 e2 => by
      rcases i with _ | k
      · cases e1; cases e2; exact .str (by decide)
      · exact absurd e1 (by simp))
    have hbg : BadV K (fun kvs => dictB zs kvs = false) GE (.ref hv) := ⟨_, .lst ehv, smh, fun z => nomatch z⟩
    have hbp : OddPh K zs GE (.ref hv) := ⟨_, .lst ehv, smh, fun _ => ⟨hv, [.str "x"], rfl, .inl ⟨ehv, rfl⟩, by show 1 ≤ 1000; decide, fun x hx => by cases List.mem_singleton.mp hx; exact ⟨_, .str (by decide)⟩, by
      unfold photoB
      rw [decide_eq_false (fun e => by have := V.int.inj e; simp only [List.length_cons, List.length_nil] at this; omega), Bool.false_and]⟩⟩
    refine st_name ?_
    refine two_metG (j := 7) (σ := [some (.ref a), some (.ref n), some (.ref p), some (.ref r), some (.ref d), some (.ref ph), w6z, w7x, some (.ref lp), some (.ref OD), some (.ref hv), none, none, none]) (H := GE) (K := K) (CP := CP) (CS := CS) (CF := CF) (CL := CL) (CE := CM) (C1 := CF) (fld1 := "photo") (word1 := "photo") (v1 := .ref hv) (C2 := CL) (fld2 := "laps") (word2 := "laps") (v2 := .ref hv) tE (by show 7 < 14; decide) hwF hwL (fun G6 Q' E' en6 hE => ?_) (fun D G6 Q' E' en6 hE => ?_) ?_
    · refine ⟨_, rfl, _, rfl, ?_⟩
      show spStOfLaps K C CP CF CL [.ref p, .ref hv, .non] G6 Q' E'
      exact ask_photo (CM := CM) (fZ := fZ) (fT := fT) (.inl ⟨rfl, rfl⟩) (pathT (enE.trans en6) hp8) hnd h2 h20 (hbp.extN en6) hE
    · refine ⟨_, rfl, _, rfl, _, rfl, ?_⟩
      show spStOfLaps K C CP CF CL [.ref p, .ref ph, .ref hv] G6 Q' E'
      exact laps_bad (pathT (enE.trans en6) hp8) hnd h2 h20 hzl ((enE.trans en6) _ _ hph8 nt_l) hpo (hbg.extN en6) hE
    intro D p1' p2' GF enF tF gD gp1 gp2
    have ehvF := enF _ _ ehv nt_l
    have nD1 : D ≠ hv := fun z => by rw [z, ehvF] at gD; cases gD
    have np1 : p1' ≠ hv := fun z => by rw [z, ehvF] at gp1; cases gp1
    have np2 : p2' ≠ hv := fun z => by rw [z, ehvF] at gp2; cases gp2
    refine ⟨_, rfl, .inl ⟨rfl, _, SqL.of ehvF⟩, hv, _, _, rfl, rfl, ehvF, by show 1 < sizeLine; decide, ?_⟩
    have b11 : But hv GF (upd GF hv (.lst ([V.str "x"] ++ [.str "late"]))) := But.upd
    have ehv11 : (upd GF hv (.lst ([V.str "x"] ++ [.str "late"]))) hv = some (.lst [.str "x", .str "late"]) := upd_same
    have t11 : Tabs TT (upd GF hv (.lst ([V.str "x"] ++ [.str "late"]))) := tabs_keep tF fun b o n1 _ e => b11 b o (fun z => by rw [z, ehvF] at e; cases e; exact n1 _ rfl) e
    generalize upd GF hv (.lst ([V.str "x"] ++ [.str "late"])) = G11 at b11 ehv11 t11
    have en411 : ExtN G5 G11 := fun b o e nt => b11 b o (ne_of_none e hhv) (enF _ _ (sGE _ _ e) nt)
    refine ⟨_, rfl, by show 2 ≤ sizeLine; decide, fun LL hLL => ?_⟩
    generalize hE : upd G11 LL _ = G12
    have sG12 : Same G11 G12 := hE ▸ same_upd hLL
    have eLL := congrFun hE.symm LL
    rw [upd_same] at eLL
    clear hE
    replace eLL : G12 LL = some (.lst [.str "x", .str "late"]) := eLL
    refine ⟨by show 2 ≤ sizeLine; decide, fun uu huu => ?_⟩
    generalize hE : upd G12 uu _ = G13
    have sG13 : Same G12 G13 := hE ▸ same_upd huu
    have euu := congrFun hE.symm uu
    rw [upd_same] at euu
    clear hE
    refine ⟨by show 2 ≤ sizeLine; decide, fun LM hLM => ?_⟩
    generalize hE : upd G13 LM _ = G14
    have sG14 : Same G13 G14 := hE ▸ same_upd hLM
    have eLM := congrFun hE.symm LM
    rw [upd_same] at eLM
    clear hE
    replace eLM : G14 LM = some (.lst [.str "x", .str "late"]) := eLM
    refine ⟨by show 2 ≤ sizeLine; decide, fun uv huv => ?_⟩
    generalize hE : upd G14 uv _ = G15
    have sG15 : Same G14 G15 := hE ▸ same_upd huv
    have euv := congrFun hE.symm uv
    rw [upd_same] at euv
    clear hE
    refine ⟨by show 2 ≤ sizeLine; decide, fun ll hll2 => ?_⟩
    generalize hE : upd G15 ll _ = G16
    have sG16 : Same G15 G16 := hE ▸ same_upd hll2
    have ell := congrFun hE.symm ll
    rw [upd_same] at ell
    clear hE
    have s1116 : Same G11 G16 := sG12.trans (sG13.trans (sG14.trans (sG15.trans sG16)))
    have s1316 : Same G13 G16 := sG14.trans (sG15.trans sG16)
    have ehv16 := s1116 _ _ ehv11
    have two : ∀ {A B : Addr}, G16 A = some (.lst [.str "x", .str "late"]) → G16 B = some (.lst [.str "x", .str "late"]) → SameD G16 6 (.ref A) (.ref B) := fun {A B} hA hB => SameD.lst (n := 5) hA hB rfl (by show 2 ≤ 1000; decide) fun i x y e1 e2 => by
      rcases i with _ | _ | k
      · cases e1; cases e2; exact .str (by decide)
      · cases e1; cases e2; exact .str (by decide)
      · exact absurd e1 (by simp)
    have pr : ∀ {A B x y : Addr} {z : Str}, z.length ≤ 1000 → G16 A = some (.tup [.str z, .ref x]) → G16 B = some (.tup [.str z, .ref y]) → SameD G16 6 (.ref x) (.ref y) → SameD G16 7 (.ref A) (.ref B) := fun {A B x y z} hz hA hB h => SameD.tup (n := 6) hA hB rfl (by show 2 ≤ 1000; decide) fun i x y e1 e2 => by
      rcases i with _ | _ | k
      · cases e1; cases e2; exact .str hz
      · cases e1; cases e2; exact h
      · exact absurd e1 (by simp)
    have k1 := pr (by decide) (s1116 _ _ (b11 _ _ np1 gp1)) (s1316 _ _ euu) (two ehv16 (s1316 _ _ (sG13 _ _ eLL)))
    have k2 := pr (by decide) (s1116 _ _ (b11 _ _ np2 gp2)) (sG16 _ _ euv) (two ehv16 (sG16 _ _ (sG15 _ _ eLM)))
    refine ⟨.ref D, .ref ll, rfl, SameD.lst (n := 7) (s1116 _ _ (b11 _ _ nD1 gD)) ell rfl (by show 2 ≤ 1000; decide) (fun i x y e1 e2 => ?_), fun G17 s17 => ?_⟩
    · rcases i with _ | _ | i
      · cases e1; cases e2; exact k1
      · cases e1; cases e2; exact k2
      · exact absurd e1 (by simp)
    have s1117 := s1116.trans s17
    have en17 : ExtN H8 G17 := (enn4.trans en411).trans (ExtN.of s1117)
    have t17 := t11.ext s1117
    refine q G17 ?_ (fun b o hb nt e => en17 _ _ (b08 b o hb e) nt) t17
    exact (sp8.extN en17).up (by omega)

end
end RK

/-! the end of a law whose promise speaks of calls from where no repr runs (FnG), with tables of code objects; where sys.modules stands is told, too -/
namespace LamX
open PySem PySem.Spec PyProof.Rows L2
/-- what is tracked at first: the tables, and the script where it is not the module's own -/
def hpEnd (K : PySem.W.Frag) (sc : Addr) (items : List Value) (ns : List Int) (ts : List Addr) : Hp := fun b =>
  if b ∈ ts then some (.tbl #[]) else if b = sc ∧ (K.lookup sc).isNone = true then some (.frz { cls := .type "list", data := .seq items.toArray } (.lst (ns.map V.int))) else none
theorem hpEnd_tab {K : PySem.W.Frag} {sc b : Addr} {items : List Value} {ns : List Int} {ts : List Addr} (h : b ∈ ts) : hpEnd K sc items ns ts b = some (.tbl #[]) := if_pos h
theorem hpEnd_sc {K : PySem.W.Frag} {sc : Addr} {items : List Value} {ns : List Int} {ts : List Addr} (h : sc ∉ ts) (e : K.lookup sc = none) : hpEnd K sc items ns ts sc = some (.frz { cls := .type "list", data := .seq items.toArray } (.lst (ns.map V.int))) :=
  (if_neg h).trans (if_pos ⟨rfl, by rw [e]; rfl⟩)
theorem hpEnd_of {K : PySem.W.Frag} {sc b : Addr} {items : List Value} {ns : List Int} {ts : List Addr} {o : HO} (h : hpEnd K sc items ns ts b = some o) :
    (b ∈ ts ∧ o = .tbl #[]) ∨ (b ∉ ts ∧ b = sc ∧ K.lookup sc = none ∧ o = .frz { cls := .type "list", data := .seq items.toArray } (.lst (ns.map V.int))) := by
  by_cases hb : b ∈ ts
  · rw [hpEnd_tab hb] at h
    exact .inl ⟨hb, (Option.some.inj h).symm⟩
  · have h1 := (if_neg hb).symm.trans h
    by_cases hs : b = sc ∧ (K.lookup sc).isNone = true
    · have h2 := (if_pos hs).symm.trans h1
      exact .inr ⟨hb, hs.1, Option.isNone_iff_eq_none.mp hs.2, (Option.some.inj h2).symm⟩
    · have h2 := (if_neg hs).symm.trans h1
      cases h2
theorem call_guarded {P : Program} {w : World} {K : PySem.W.Frag} {mg mb : Str → Option Value} {CX : CXT} {k : Nat} {fa sc : Addr} {tabs : List (Addr × Addr)} {fd : FuncData} {x : Str} {sp : Sp} {u : Shared} {items : List Value} {ns : List Int}
    (kin : K.In u.heap) (nsG : u.heap.Ns mainGlobals mg) (nsB : u.heap.Ns builtinsNs mb) (bb : ∀ y : Str, y ≠ "__name__" → mb y = bootBuiltins y) (nolim : u.heap.NoLimit) (nogen : u.gens = #[])
    (tab : ∀ q ∈ tabs, u.heap.get? q.2 = some { cls := .none, data := .fields #[] }) (tabK : ∀ q ∈ tabs, K.lookup q.2 = none) (code : ∀ q ∈ tabs, PySem.W.CodeHd u.heap q.1 q.2)
    (main : ∃ (bm : Addr) (ob : Obj), mg "__builtins__" = some (.ref bm) ∧ bm ≠ builtinsNs ∧ u.heap.get? bm = some ob ∧ ob.cls = .type "module" ∧ ob.dict = some builtinsNs ∧ ob.data = .plain)
    (hsc : u.heap.get? sc = some { cls := .type "list", data := .seq items.toArray }) (hints : IntsAre items ns) (small : ns.length ≤ sizeLine) (room : Room k callerA) (quiet : callerA.guards = some [])
    (mods : ∃ mm, u.heap.Ns sysModules mm)
    (F : ∀ base : Heap, K.In base → base.Ns mainGlobals mg → (∃ mm, base.Ns sysModules mm) → (∀ q ∈ tabs, TabB base mg q.1 q.2) → FnG P w K mg base CX k fa fd [x] sp) (binds : ∀ (s : Shared) (v : Value), BindsTo s fd ⟨[v], []⟩ [(x, v)])
    (promise : ∀ H : Hp, (∀ q ∈ tabs, H q.2 = some (.tbl #[])) → SqL K H sc (ns.map V.int) → sp [.ref sc] H (fun v _ => v = .bl true) fun _ _ _ => False)
    (never : ∀ H e s', CX [] H u (fun _ _ _ => False) e s' → False) :
    codeAny (model P w) callerA (.call (.ref fa) ⟨[.ref sc], []⟩) (fun r s' => r = .ok (.ret (.bool true)) ∧ OldK u.heap s'.heap ∧ s'.os = u.os ∧ AllBare s'.gens) u := by
  have rel := vals_ints hints
  have count := hints.length
  have memT : ∀ q ∈ tabs, q.2 ∈ tabs.map (·.2) := fun q hq => List.mem_map_of_mem hq
  have atT : ∀ b : Addr, b ∈ tabs.map (·.2) → u.heap.get? b = some { cls := .none, data := .fields #[] } ∧ K.lookup b = none := fun b hb => by
    obtain ⟨q, hq, rfl⟩ := List.mem_map.mp hb
    exact ⟨tab q hq, tabK q hq⟩
  have scT : sc ∉ tabs.map (·.2) := fun z => by
    have q := (atT sc z).1
    rw [hsc] at q
    exact absurd (congrArg Obj.data (Option.some.inj q)) (fun y => by cases (show Data.seq items.toArray _ = Data.fields #[] from y))
  generalize hH : hpEnd K sc items ns (tabs.map (·.2)) = H
  have tk : ∀ q ∈ tabs, H q.2 = some (.tbl #[]) := fun q hq => by rw [← hH]; exact hpEnd_tab (memT q hq)
  have ofH : ∀ {b : Addr} {o : HO}, H b = some o → (b ∈ tabs.map (·.2) ∧ o = .tbl #[]) ∨ (b ∉ tabs.map (·.2) ∧ b = sc ∧ K.lookup sc = none ∧ o = .frz { cls := .type "list", data := .seq items.toArray } (.lst (ns.map V.int))) := fun {b o} e => by
    rw [← hH] at e
    exact hpEnd_of e
  have hS : SqL K H sc (ns.map V.int) := by
    cases hk : K.lookup sc with
    | none => exact .inl (.inr ⟨_, by rw [← hH]; exact hpEnd_sc scT hk⟩)
    | some o =>
      have e := kin sc o hk
      rw [hsc] at e
      cases e
      exact .inr ⟨_, items.toArray, _, hk, rfl, rfl, rfl, by rw [List.size_toArray, count]; exact small, by simpa using rel⟩
  have hok : HOk P w H u.heap := fun b o z => by
    rcases ofH z with ⟨hb, rfl⟩ | ⟨_, rfl, _, rfl⟩
    · exact (atT b hb).1
    · exact ⟨hsc, by rw [List.length_map]; exact small, items, _, rel, hsc⟩
  -- what is untracked
  have free : ∀ {b : Addr} {o : Obj}, u.heap.get? b = some o → (∀ vs n, o.data ≠ .seq vs n) → o.data ≠ .fields #[] → H b = none := fun {b o} e h1 h2 => by
    cases q : H b with
    | none => rfl
    | some ho =>
      rcases ofH q with ⟨hb, _⟩ | ⟨_, hb, _, _⟩
      · rw [(atT b hb).1] at e
        cases e
        exact (h2 rfl).elim
      · rw [hb, hsc] at e
        cases e
        exact (h1 _ _ rfl).elim
  have kept : ∀ {b : Addr} {o : Obj}, u.heap.get? b = some o → H b = none → (hidT u.heap H).get? b = some o := fun e n => hidT_get e n
  have isD : ∀ {b : Addr} {o : Obj} {es : Array DictEntry} {ep : Nat}, u.heap.get? b = some o → o.data = .dict es ep → H b = none := fun {b o es ep} e d =>
    free e (fun vs n z => by rw [d] at z; cases z) fun z => by rw [d] at z; cases z
  have ns2 : ∀ {b : Addr} {m : Str → Option Value}, u.heap.Ns b m → (hidT u.heap H).Ns b m := fun {b m} ⟨o, es, ep, e, d, r⟩ => ⟨o, es, ep, kept e (isD e d), d, r⟩
  have kin2 : K.In (hidT u.heap H) := fun b o e => kept (kin b o e) (by
    cases q : H b with
    | none => rfl
    | some ho =>
      rcases ofH q with ⟨hb, _⟩ | ⟨_, hb, hk, _⟩
      · rw [(atT b hb).2] at e; cases e
      · rw [hb, hk] at e; cases e)
  have mod2 : L2.Mod K mg (hidT u.heap H) := ⟨kin2, ns2 nsG, ⟨mb, ns2 nsB, bb⟩, let ⟨mc, m1, m2⟩ := nolim; ⟨mc, ns2 m1, m2⟩⟩
  have tabs2 : ∀ q ∈ tabs, TabB (hidT u.heap H) mg q.1 q.2 := fun q hq => by
    have at2 := tab q hq
    refine ⟨?_, ?_, fun z => ?_⟩
    · obtain ⟨o, us, file, tf, flags, tg, inF, text, tt, e1, r1, r2, r3, r⟩ := code q hq
      exact ⟨o, us, file, tf, flags, tg, inF, text, tt, kept e1 (free e1 (fun vs n z => by rw [r2] at z; cases z) fun z => by rw [r2] at z; cases z; simp at r3), r1, r2, r3, r⟩
    · obtain ⟨bm, ob, b1, b2, b3, b4, b5, b6⟩ := main
      refine ⟨bm, ob, b1, b2, fun z => ?_, fun z => ?_, kept b3 (free b3 (fun vs n z => by rw [b6] at z; cases z) fun z => by rw [b6] at z; cases z), b4, b5, b6⟩
      · obtain ⟨o, es, ep, e, d, _⟩ := nsG
        rw [z, e] at b3; cases b3
        rw [d] at b6; cases b6
      · rw [z, at2] at b3; cases b3; cases b6
    · obtain ⟨o, es, ep, e, d, _⟩ := nsG
      rw [z, at2] at e; cases e; cases d
  have env : Env0 P w K mg (hidT u.heap H) callerA [] u H := ⟨rfl, mod2, fun b o e => of_hidT e, Nat.le_of_eq (hidT_size _ _), trivial, fun b hb => absurd (show b ∈ ([] : List Addr) from hb) List.not_mem_nil, hok, .of_eq nogen⟩
  refine codeAny_mono ((F _ kin2 (ns2 nsG) (let ⟨mm, h⟩ := mods; ⟨mm, ns2 h⟩) tabs2).run callerA [] u H ⟨[.ref sc], []⟩ [.ref sc] [.ref sc] _ _ room quiet env (binds u (.ref sc)) (.cons rfl .nil) (promise H tk hS)) fun r s' h => ?_
  match r, h with
  | .error e, h => exact (never H e s' h).elim
  | .ok .next, h => exact False.elim h
  | .ok .brk, h => exact False.elim h
  | .ok .cont, h => exact False.elim h
  | .ok (.ret z), ⟨v, H', os, bare, un, hok', r', q⟩ =>
    have q' : v = .bl true := q
    subst q'
    obtain rfl : z = Value.bool true := r'
    have stays : ∀ b o, b ∉ tabs.map (·.2) → u.heap.get? b = some o → s'.heap.get? b = some o := fun b o nb e => by
      cases q : H b with
      | none => exact un.keep b o e q (fun z => absurd (show b ∈ ([] : List Addr) from z) List.not_mem_nil) (by simp)
      | some ho =>
        rcases ofH q with ⟨hb, _⟩ | ⟨_, rfl, _, rfl⟩
        · exact absurd hb nb
        · rw [hsc] at e
          cases e
          exact (hok' b _ (un.frzs b _ _ q)).1
    have grown : ∀ b, b ∈ tabs.map (·.2) → ∃ more : Array Value, s'.heap.get? b = some { cls := .none, data := .fields more } := fun b hb => by
      obtain ⟨more, z⟩ := un.tbls b #[] (by rw [← hH]; exact hpEnd_tab hb)
      exact ⟨_, hok' b _ z⟩
    refine ⟨rfl, ⟨fun b o e => ?_, fun b o e => ?_⟩, os, bare⟩
    · by_cases hb : b ∈ tabs.map (·.2)
      · obtain ⟨more, hm⟩ := grown b hb
        obtain ⟨q, hq, rfl⟩ := List.mem_map.mp hb
        rw [tab q hq] at e; cases e
        exact .inr (.inl ⟨((code q hq).tab (tab q hq)).isCodeTable, rfl, #[], more, rfl, by rw [Array.empty_append]; exact hm⟩)
      · exact .inl (stays b o hb e)
    · by_cases hb : b ∈ tabs.map (·.2)
      · obtain ⟨more, hm⟩ := grown b hb
        exact ⟨_, hm⟩
      · exact ⟨o, stays b o hb e⟩
/-- what the law's promise gives at the heap behind the top -/
def LawAtG (l : PySem.W.OpenLaw) (w : World) (K : PySem.W.Frag) (CX : CXT) (k n : Nat) (x : Str) (mg : Str → Option Value) (fa : Addr) (h : Heap) : Prop :=
  ∃ (fd : FuncData) (tabs : List (Addr × Addr)) (sp : Sp), (∀ q ∈ tabs, h.get? q.2 = some { cls := .none, data := .fields #[] }) ∧ (∀ q ∈ tabs, K.lookup q.2 = none) ∧ (∀ q ∈ tabs, PySem.W.CodeHd h q.1 q.2) ∧ (∀ (s : Shared) (v : Value), BindsTo s fd ⟨[v], []⟩ [(x, v)]) ∧
    (∀ (H : Hp) (a : Addr) (ns : List Int), ns.length ≤ n → (∀ z ∈ ns, Builtin.Int.intBits z ≤ 1048576) → (∀ q ∈ tabs, H q.2 = some (.tbl #[])) → SqL K H a (ns.map V.int) → sp [.ref a] H (fun v _ => v = .bl true) fun _ _ _ => False) ∧
    ∀ base : Heap, K.In base → base.Ns mainGlobals mg → (∃ mm, base.Ns sysModules mm) → (∀ q ∈ tabs, TabB base mg q.1 q.2) → FnG l.prog w K mg base CX k fa fd [x] sp
theorem walk_guarded {l : PySem.W.OpenLaw} {n k : Nat} {q : Program} {loose : List Str} {XP : (Str → Option Value) → Heap → Prop} {YP : World → Heap → Prop} {d : DefRec} {K : Params → PySem.W.Frag} {CX : World → CXT} {x : Str}
    (imp : importsNone q = true) (most : l.most = some n) (fits : n ≤ sizeLine) (plain : d.params.defaults = []) (room : Room k callerA) (quiet : callerA.guards = some []) (kin : ∀ (w : World) (h : Heap), YP w h → (K w.params).In h)
    (F : ∀ (w : World) (mg : Str → Option Value) (fa : Addr) (h : Heap), YP w h → (K w.params).In h → h.Ns mainGlobals mg → mg d.name = some (.ref fa) →
      (∀ (y : Str) (c Pt : Addr), ((recsOf q).any fun e => e.name == y) = true → PySem.W.tabIn (K w.params) y = some (c, Pt) → PySem.W.CodeHd h c Pt ∧ h.get? Pt = some { cls := .none, data := .fields #[] }) → LawAtG l w (K w.params) (CX w) k n x mg fa h)
    (never : ∀ (w : World) (H : Hp) (s : Shared) (e : Value) (s' : Shared), CX w [] H s (fun _ _ _ => False) e s' → False) :
    PySem.W.WalkO q loose XP YP l.row.toRowW d [] (fun f vs => PySem.call f vs) := by
  refine Att.attach_callB most plain fun w s₀ s₁ mg mb fa o pm cd doc a vs ns G Y ho hd hcd hmg hobj hints hlen hbits hg => ?_
  have KX := kin w _ Y
  have tb : ∀ (y : Str) (c Pt : Addr), ((recsOf q).any fun e => e.name == y) = true → PySem.W.tabIn (K w.params) y = some (c, Pt) → PySem.W.CodeHd s₁.heap c Pt ∧ s₁.heap.get? Pt = some { cls := .none, data := .fields #[] } := fun y c Pt hy ht => by
    cases hf : (recsOf q).find? (fun e => e.name == y) with
    | none =>
      obtain ⟨e, he, h2⟩ := List.any_eq_true.mp hy
      exact absurd h2 (List.find?_eq_none.mp hf e he)
    | some dd => exact PySem.W.tab_of G.T KX hf ht
  obtain ⟨fd, tabs, sp, h1, h2, h3, h4, h5, h6⟩ := F w mg fa _ Y KX G.T.g hmg tb
  exact call_guarded KX G.T.g G.T.b G.T.builtins G.T.nolimit hg h1 h2 h3 G.T.bmain hobj hints (Nat.le_trans hlen fits) room quiet (let ⟨mm, h, _⟩ := (G.T.seer imp).mods; ⟨mm, h⟩) h6 h4 (fun H t s => h5 H a ns hlen hbits t s) fun H e s' => never w H s₁ e s'
end LamX

namespace RK
open PySem L2 LamX
/-! ### the law -/
def spLaw (K : PySem.W.Frag) (TT : List (Addr × Str)) : Sp := fun vs H Q _ => ∃ (a : Addr) (ns : List Int), vs = [.ref a] ∧ SqL K H a (ns.map V.int) ∧ ns.length ≤ 63 ∧ Tabs TT H ∧ ∀ H', Q (.bl true) H'
theorem SqL.extN {K : PySem.W.Frag} {H H' : Hp} {a : Addr} {xs : List V} (h : SqL K H a xs) (s : ExtN H H') : SqL K H' a xs := by
  rcases h with (h | ⟨o, h⟩) | h
  · exact .inl (.inl (s _ _ h (fun _ z => nomatch z)))
  · exact .inl (.inr ⟨o, s _ _ h (fun _ z => nomatch z)⟩)
  · exact .inr h
section
variable {P : Program} {w : World} {K : PySem.W.Frag} {mg : Str → Option Value} {base : Heap} {TT : List (Addr × Str)}
theorem scLaw : FnScope ["script", "turn", "source"] ["script"] (defScope sLaw) := ⟨rfl, rfl, rfl, by decide +kernel, rfl, by decide +kernel, by decide +kernel⟩
theorem ok_law {f fT fS fR fD : Addr} {fd fdT fdS fdR fdD : FuncData} (F : Fun K "law" "law" sLaw f fd) (B : B0 K mg)
    (GT : FnG P w K mg base CX0 6 fT fdT ["source", "many"] (spStandsR TT)) (bT : Binds K fdT ["source", "many"] []) (gT : mg "_law_stands_right" = some (.ref fT)) (kT9 : PySem.W.keepIn K (.ref fT) = true)
    (GS : FnOk P w K mg base CX0 2 fS fdS ["script", "k"] (spSpring K)) (bS : Binds K fdS ["script", "k"] []) (gS : mg "_law_source" = some (.ref fS)) (kS9 : PySem.W.keepIn K (.ref fS) = true)
    (GR : FnOk P w K mg base CX0 10 fR fdR ["source"] (spOddsR TT)) (bR : Binds K fdR ["source"] []) (gR : mg "_law_odds_right" = some (.ref fR)) (kR9 : PySem.W.keepIn K (.ref fR) = true)
    (GD : FnOk P w K mg base CX0 1 fD fdD ["source", "many"] spDraw) (bD : Binds K fdD ["source", "many"] []) (gD : mg "_law_draw" = some (.ref fD)) (kD9 : PySem.W.keepIn K (.ref fD) = true) :
    FnG P w K mg base CX0 11 f fd ["script"] (spLaw K TT) := by
  refine F.okG scLaw (fun vs H Q E h => ?_) (fun cdv A outer s H vs Q E hr quiet h => ?_)
  · obtain ⟨sc, ns, rfl, _⟩ := h
    rfl
  · obtain ⟨sc, ns, rfl, hsc, hns, hT, k⟩ := h
    have hu := hu_of hr
    have hr1 : Room 1 _ := hr.mono (by decide)
    have hr2 : Room 2 _ := hr.mono (by decide)
    have hr6 : Room 6 _ := hr.mono (by decide)
    have hr10 : Room 10 _ := hr.mono (by decide)
    refine ⟨_, pss_cons (ps_for PassesOwn.never rfl (pi_range1 (by rfl) B.range (pa_cons pe_int pa_nil)) (pg_name (i := 1) scLaw.nd rfl (Or.inl rfl))
        (pss_cons (ps_set (i := 2) scLaw.nd rfl (Or.inl rfl) (pe_call GS hr2 (by rfl) gS kS9 bS .nil pass0 (pa_cons (pv 0) (pa_cons (pv 1) pa_nil))))
      (pss_one (ps_if (PW.pt (pw_or (pt_not (pt_val (pe_callG GT hr6 quiet (by rfl) gT kT9 bT .nil pass0 (pa_cons (pv 2) (pa_cons (pe_op op_add pe_int (pe_call GD hr1 (by rfl) gD kD9 bD .nil pass0 (pa_cons (pv 2) (pa_cons pe_int pa_nil)))) pa_nil))))) (pw_or1 (pt_not (pt_val (pe_call GR hr10 (by rfl) gR kR9 bR .nil pass0 (pa_cons (pv 2) pa_nil))))))) (pss_one (ps_ret pe_bl)) (pss_nil)))))
      (pss_one (ps_ret (pe_callG GT hr6 quiet (by rfl) gT kT9 bT .nil pass0 (pa_cons (pe_call GS hr2 (by rfl) gS kS9 bS .nil pass0 (pa_cons (pv 0) (pa_cons pe_int pa_nil))) (pa_cons pe_int pa_nil))))), ?_⟩
    refine ⟨6, rfl, by decide, by decide, for_range (n := 6) (fun i σ G => ∃ w1 w2, σ = [some (.ref sc), w1, w2] ∧ ExtN H G ∧ Tabs TT G) ⟨none, none, rfl, ExtN.refl H, hT⟩ ?_ ?_⟩
    · rintro i σ G hi ⟨w1, w2, rfl, eG, tG⟩
      refine ⟨_, rfl, _, rfl, sc, ns, i, by rw [Int.zero_add]; rfl, SqL.extN hsc eG, hns, by omega, fun a o G1 ha0 ha1 ho s1 => ?_⟩
      have sp1 : SpAt G1 a 0 := ⟨o, ha1, ho⟩
      refine ⟨_, rfl, _, rfl, a, 9, 0, rfl, by decide, by decide, sp1, by decide, fun r0 o0 hr0 hr1' ho0 => ?_⟩
      obtain ⟨rn, rfl⟩ : ∃ rn : Nat, r0 = (rn : Int) := ⟨r0.toNat, by omega⟩
      have spb : SpAt (upd G1 a o0) a (0 + 1) := ⟨o0, upd_same, ho0⟩
      have bb : But a G1 (upd G1 a o0) := But.upd
      generalize upd G1 a o0 = Gb at spb bb
      have sGb : Same G Gb := But.fresh ((Same.but s1).trans bb) ha0
      refine ⟨_, _, rfl, rfl, ?_⟩
      refine st_nil ⟨a, 2 + rn, 0 + 1, (by show [V.ref a, V.int (2 + (rn : Int))] = [V.ref a, V.int ((2 + rn : Nat) : Int)]; rw [show (2 : Int) + (rn : Int) = ((2 + rn : Nat) : Int) by omega]), by omega, by omega, spb, by decide, tG.ext sGb, fun G2 sp2 b2 t2 => ⟨true, rfl, iteF ?_⟩⟩
      have e02 : ExtN G G2 := fun b o e nt => b2 b o (ne_of_none e ha0) nt (sGb _ _ e)
      refine ⟨_, rfl, a, _, rfl, sp2, by decide, t2, fun G3 sp3 b3 t3 => ⟨true, rfl, iteF ?_⟩⟩
      exact ⟨_, _, rfl, eG.trans fun b o e nt => b3 b o (ne_of_none e ha0) nt (e02 _ _ e nt), t3⟩
    · rintro σ G ⟨w1, w2, rfl, eG, tG⟩
      refine ⟨_, rfl, sc, ns, 6, rfl, SqL.extN hsc eG, hns, by decide, fun a o G1 ha0 ha1 ho s1 => ?_⟩
      refine ⟨a, 20, 0, rfl, by decide, by decide, ⟨o, ha1, ho⟩, by decide, tG.ext s1, fun G2 _ _ _ => k _⟩

end
end RK

namespace RK
open PySem L2
/-! ### calls by name in any order -/
theorem vals_snoc {zs : List V} {us : List Value} (h : Vals zs us) {zs2 : List V} {us2 : List Value} (h2 : Vals zs2 us2) : Vals (zs ++ zs2) (us ++ us2) := by
  induction h with
  | nil => exact h2
  | cons a _ ih => exact .cons a ih
theorem vals_rev {zs : List V} {us : List Value} (h : Vals zs us) : Vals zs.reverse us.reverse := by
  induction h with
  | nil => exact .nil
  | cons a _ ih => rw [List.reverse_cons, List.reverse_cons]; exact vals_snoc ih (.cons a .nil)
theorem kb_photoOf {K : PySem.W.Frag} {kV doc pm cdv ct : Value} {an : Option Addr} : KBn K (PySem.W.fnOf "photo_of" "photo_of" (defArgs sPhotoOf) (defBody sPhotoOf) (defScope sPhotoOf) .none kV doc pm an cdv ct) ["path", "stand"] 0 ["stand", "path"] (fun us ws => ws.reverse) (fun vs zs => zs.reverse) := by
  refine ⟨fun s us ws X l1 l2 => ?_, fun _ r2 => vals_rev r2⟩
  match us, ws, l1, l2 with
  | [], [w1, w2], _, _ => exact .of_eq rfl
theorem kb_lapsOf {K : PySem.W.Frag} {f : Addr} {fd : FuncData} (F : Fun K "laps_of" "laps_of" sLapsOf f fd) : KBn K fd ["path", "stand"] 0 ["stand", "path"] (fun us ws => ws.reverse) (fun vs zs => zs.reverse) := by
  obtain ⟨oc, od, kV, doc, pm, an, cdv, ct, osl, rfl, lk, hcd⟩ := F.ex
  refine ⟨fun s us ws X l1 l2 => ?_, fun _ r2 => vals_rev r2⟩
  match us, ws, l1, l2 with
  | [], [w1, w2], _, _ => exact .of_eq rfl
theorem kb_stOfLaps {K : PySem.W.Frag} {f : Addr} {fd : FuncData} (F : Fun K "stand_of_laps" "stand_of_laps" sStOfLaps f fd) : KBn K fd ["path", "photo", "laps"] 0 ["laps", "photo", "path"] (fun us ws => ws.reverse) (fun vs zs => zs.reverse) := by
  obtain ⟨oc, od, kV, doc, pm, an, cdv, ct, osl, rfl, lk, hcd⟩ := F.ex
  refine ⟨fun s us ws X l1 l2 => ?_, fun _ r2 => vals_rev r2⟩
  match us, ws, l1, l2 with
  | [], [w1, w2, w3], _, _ => exact .of_eq rfl
theorem kb_photoTurned {K : PySem.W.Frag} {f : Addr} {fd : FuncData} (F : Fun K "photo_turned" "photo_turned" sPhotoTurned f fd) : KBn K fd ["path", "photo", "many"] 0 ["many", "photo", "path"] (fun us ws => ws.reverse) (fun vs zs => zs.reverse) := by
  obtain ⟨oc, od, kV, doc, pm, an, cdv, ct, osl, rfl, lk, hcd⟩ := F.ex
  refine ⟨fun s us ws X l1 l2 => ?_, fun _ r2 => vals_rev r2⟩
  match us, ws, l1, l2 with
  | [], [w1, w2, w3], _, _ => exact .of_eq rfl
end RK

namespace RK
open PySem L2 LamX
theorem exm_self {K : PySem.W.Frag} {S : Addr} (h1 : PySem.W.subIn K (.ref S) (.type "BaseException") = some true) (h2 : PySem.W.isClsIn K S = true) (h3 : PySem.W.typeIn K (.ref S) = some (.type "type")) (h4 : PySem.W.subIn K (.ref S) (.ref S) = some true) :
    PySem.W.exmOne K (.ref S) (.ref S) = some true := by
  have e1 : (PySem.W.subIn K (.ref S) (.type "BaseException") == some true) = true := by rw [h1] <;> rfl
  have e2 : ((PySem.W.clsIn K S).isSome && PySem.W.typeIn K (.ref S) == some (.type "type")) = true := by
    have h2' : (PySem.W.clsIn K S).isSome = true := h2
    rw [h2', h3] <;> rfl
  show (if (PySem.W.subIn K (.ref S) (.type "BaseException") == some true) = true then (if ((PySem.W.clsIn K S).isSome && PySem.W.typeIn K (.ref S) == some (.type "type")) = true then PySem.W.subIn K (.ref S) (.ref S) else none) else none) = some true
  rw [if_pos e1, if_pos e2]
  exact h4
theorem isC_of {K : PySem.W.Frag} {S : Addr} (h2 : PySem.W.isClsIn K S = true) (h3 : PySem.W.typeIn K (.ref S) = some (.type "type")) : ((PySem.W.clsIn K S).isSome && PySem.W.typeIn K (.ref S) == some (.type "type")) = true := by
  have h2' : (PySem.W.clsIn K S).isSome = true := h2
  rw [h2', h3] <;> rfl
theorem cls_fn {K : PySem.W.Frag} {a : Addr} {o : Obj} (h : K.lookup a = some o) (t : o.cls = .type "function") : ∃ o, K.lookup a = some o ∧ o.cls = .type "function" := ⟨o, h, t⟩


theorem all_mk {P : Program} {w : World} {K : PySem.W.Frag} {h : Heap} {mg : Str → Option Value} {fa C f101 f102 f103 f104 f105 f106 f107 f108 f109 f110 f111 f112 f113 f114 f115 f116 f117 f118 f119 f120 f121 f122 f123 f124 f125 f126 f127 f128 f129 f130 f131 f132 f133 f134 f135 f136 f137 f138 f139 f140 f141 f142 f143 f144 C50 C51 C52 C53 C54 C55 e50 e51 e52 e53 e54 e55 cda50 cc50 N50 cda51 cc51 N51 cda52 cc52 N52 cda53 cc53 N53 cda54 cc54 N54 cda55 cc55 N55 ct_119 Pt_119 ct_143 Pt_143 : Addr} (X : K.In h) (G : h.Ns mainGlobals mg) (hfa : mg "law" = some (.ref fa))
    {od101 an101 od102 an102 od103 an103 od104 an104 od105 an105 od106 an106 od107 an107 od108 an108 od109 an109 od110 an110 od111 an111 od112 an112 od113 an113 od114 an114 od115 an115 od116 an116 od117 an117 od118 an118 od119 an119 od120 an120 od121 an121 od122 an122 od123 an123 od124 an124 od125 an125 od126 an126 od127 an127 od128 an128 od129 an129 od130 an130 od131 an131 od132 an132 od133 an133 od134 an134 od135 an135 od136 an136 od137 an137 od138 an138 od139 an139 od140 an140 od141 an141 od142 an142 od143 an143 od144 an144 odct_119 odct_143 ode50 ane50 cld50 cdd50 dd50 ode51 ane51 cld51 cdd51 dd51 ode52 ane52 cld52 cdd52 dd52 ode53 ane53 cld53 cdd53 dd53 ode54 ane54 cld54 cdd54 dd54 ode55 ane55 cld55 cdd55 dd55 : Option Addr} {sl101 sl102 sl103 sl104 sl105 sl106 sl107 sl108 sl109 sl110 sl111 sl112 sl113 sl114 sl115 sl116 sl117 sl118 sl119 sl120 sl121 sl122 sl123 sl124 sl125 sl126 sl127 sl128 sl129 sl130 sl131 sl132 sl133 sl134 sl135 sl136 sl137 sl138 sl139 sl140 sl141 sl142 sl143 sl144 slct_119 slct_143 sle50 csl50 ccs50 sle51 csl51 ccs51 sle52 csl52 ccs52 sle53 csl53 ccs53 sle54 csl54 ccs54 sle55 csl55 ccs55 : Array (Option Value)} {oc101 kV101 dc101 pm101 cd101 ct101 oc102 kV102 dc102 pm102 cd102 ct102 oc103 kV103 dc103 pm103 cd103 ct103 oc104 kV104 dc104 pm104 cd104 ct104 oc105 kV105 dc105 pm105 cd105 ct105 oc106 kV106 dc106 pm106 cd106 ct106 oc107 kV107 dc107 pm107 cd107 ct107 oc108 kV108 dc108 pm108 cd108 ct108 oc109 kV109 dc109 pm109 cd109 ct109 oc110 kV110 dc110 pm110 cd110 ct110 oc111 kV111 dc111 pm111 cd111 ct111 oc112 kV112 dc112 pm112 cd112 ct112 oc113 kV113 dc113 pm113 cd113 ct113 oc114 kV114 dc114 pm114 cd114 ct114 oc115 kV115 dc115 pm115 cd115 ct115 oc116 kV116 dc116 pm116 cd116 ct116 oc117 kV117 dc117 pm117 cd117 ct117 oc118 kV118 dc118 pm118 cd118 ct118 oc119 kV119 dc119 pm119 ct119 oc120 kV120 dc120 pm120 cd120 ct120 oc121 kV121 dc121 pm121 cd121 ct121 oc122 kV122 dc122 pm122 cd122 ct122 oc123 kV123 dc123 pm123 cd123 ct123 oc124 kV124 dc124 pm124 cd124 ct124 oc125 kV125 dc125 pm125 cd125 ct125 oc126 kV126 dc126 pm126 cd126 ct126 oc127 kV127 dc127 pm127 cd127 ct127 oc128 kV128 dc128 pm128 cd128 ct128 oc129 kV129 dc129 pm129 cd129 ct129 oc130 kV130 dc130 pm130 cd130 ct130 oc131 kV131 dc131 pm131 cd131 ct131 oc132 kV132 dc132 pm132 cd132 ct132 oc133 kV133 dc133 pm133 cd133 ct133 oc134 kV134 dc134 pm134 cd134 ct134 oc135 kV135 dc135 pm135 cd135 ct135 oc136 kV136 dc136 pm136 cd136 ct136 oc137 kV137 dc137 pm137 cd137 ct137 oc138 kV138 dc138 pm138 cd138 ct138 oc139 kV139 dc139 pm139 cd139 ct139 oc140 kV140 dc140 pm140 cd140 ct140 oc141 kV141 dc141 pm141 cd141 ct141 oc142 kV142 dc142 pm142 cd142 ct142 oc143 kV143 dc143 pm143 ct143 oc144 kV144 dc144 pm144 cd144 ct144 occt_119 occt_143 oce50 dce50 pme50 cte50 cl50 ccl50 oce51 dce51 pme51 cte51 cl51 ccl51 oce52 dce52 pme52 cte52 cl52 ccl52 oce53 dce53 pme53 cte53 cl53 ccl53 oce54 dce54 pme54 cte54 cl54 ccl54 oce55 dce55 pme55 cte55 cl55 ccl55 : Value} {t1 t2 t3 : Tok}
    {vsct_119 : Array Value}
    {vsct_143 : Array Value}
    {vs50 : Array Value} {file50 nm50 q50 : Str} {tf50 : Tok} {bs50 bm50 sub50 : List Value} {sn50 : List Str} {ab50 : Bool} {col50 : Option Bool} {m050 m150 m250 m350 m550 : Option Value}
    {vs51 : Array Value} {file51 nm51 q51 : Str} {tf51 : Tok} {bs51 bm51 sub51 : List Value} {sn51 : List Str} {ab51 : Bool} {col51 : Option Bool} {m051 m151 m251 m351 m551 : Option Value}
    {vs52 : Array Value} {file52 nm52 q52 : Str} {tf52 : Tok} {bs52 bm52 sub52 : List Value} {sn52 : List Str} {ab52 : Bool} {col52 : Option Bool} {m052 m152 m252 m352 m552 : Option Value}
    {vs53 : Array Value} {file53 nm53 q53 : Str} {tf53 : Tok} {bs53 bm53 sub53 : List Value} {sn53 : List Str} {ab53 : Bool} {col53 : Option Bool} {m053 m153 m253 m353 m553 : Option Value}
    {vs54 : Array Value} {file54 nm54 q54 : Str} {tf54 : Tok} {bs54 bm54 sub54 : List Value} {sn54 : List Str} {ab54 : Bool} {col54 : Option Bool} {m054 m154 m254 m354 m554 : Option Value}
    {vs55 : Array Value} {file55 nm55 q55 : Str} {tf55 : Tok} {bs55 bm55 sub55 : List Value} {sn55 : List Str} {ab55 : Bool} {col55 : Option Bool} {m055 m155 m255 m355 m555 : Option Value}
    (aC : PySem.W.nsIn K mainGlobals "Path" = some (some (.ref C)))
    (a50 : PySem.W.nsIn K mainGlobals "BadWalkers" = some (some (.ref C50)))
    (xi50C : PySem.W.findIn K (.ref C50) "__init__" = some (some (.ref e50)))
    (a51 : PySem.W.nsIn K mainGlobals "BadPath" = some (some (.ref C51)))
    (xi51C : PySem.W.findIn K (.ref C51) "__init__" = some (some (.ref e51)))
    (a52 : PySem.W.nsIn K mainGlobals "BadStand" = some (some (.ref C52)))
    (xi52C : PySem.W.findIn K (.ref C52) "__init__" = some (some (.ref e52)))
    (a53 : PySem.W.nsIn K mainGlobals "BadPhoto" = some (some (.ref C53)))
    (xi53C : PySem.W.findIn K (.ref C53) "__init__" = some (some (.ref e53)))
    (a54 : PySem.W.nsIn K mainGlobals "BadLaps" = some (some (.ref C54)))
    (xi54C : PySem.W.findIn K (.ref C54) "__init__" = some (some (.ref e54)))
    (a55 : PySem.W.nsIn K mainGlobals "BadMany" = some (some (.ref C55)))
    (xi55C : PySem.W.findIn K (.ref C55) "__init__" = some (some (.ref e55)))
    (a101 : PySem.W.nsIn K mainGlobals "is_integer" = some (some (.ref f101)))
    (l101 : K.lookup f101 = some ⟨oc101, od101, .func (PySem.W.fnOf "is_integer" "is_integer" (defArgs sIsInt) (defBody sIsInt) (defScope sIsInt) .none kV101 dc101 pm101 an101 cd101 ct101), sl101⟩)
    (c101 : PySem.W.codeIn K cd101 "is_integer" = true)
    (k101 : PySem.W.keepIn K (.ref f101) = true)
    (a102 : PySem.W.nsIn K mainGlobals "is_number" = some (some (.ref f102)))
    (l102 : K.lookup f102 = some ⟨oc102, od102, .func (PySem.W.fnOf "is_number" "is_number" (defArgs sIsNumber) (defBody sIsNumber) (defScope sIsNumber) .none kV102 dc102 pm102 an102 cd102 ct102), sl102⟩)
    (c102 : PySem.W.codeIn K cd102 "is_number" = true)
    (k102 : PySem.W.keepIn K (.ref f102) = true)
    (a103 : PySem.W.nsIn K mainGlobals "is_list" = some (some (.ref f103)))
    (l103 : K.lookup f103 = some ⟨oc103, od103, .func (PySem.W.fnOf "is_list" "is_list" (defArgs sIsList) (defBody sIsList) (defScope sIsList) .none kV103 dc103 pm103 an103 cd103 ct103), sl103⟩)
    (c103 : PySem.W.codeIn K cd103 "is_list" = true)
    (k103 : PySem.W.keepIn K (.ref f103) = true)
    (a104 : PySem.W.nsIn K mainGlobals "is_list_of" = some (some (.ref f104)))
    (l104 : K.lookup f104 = some ⟨oc104, od104, .func (PySem.W.fnOf "is_list_of" "is_list_of" (defArgs sIsListOf) (defBody sIsListOf) (defScope sIsListOf) .none kV104 dc104 pm104 an104 cd104 ct104), sl104⟩)
    (c104 : PySem.W.codeIn K cd104 "is_list_of" = true)
    (k104 : PySem.W.keepIn K (.ref f104) = true)
    (a105 : PySem.W.nsIn K mainGlobals "is_name" = some (some (.ref f105)))
    (l105 : K.lookup f105 = some ⟨oc105, od105, .func (PySem.W.fnOf "is_name" "is_name" (defArgs sIsName) (defBody sIsName) (defScope sIsName) .none kV105 dc105 pm105 an105 cd105 ct105), sl105⟩)
    (c105 : PySem.W.codeIn K cd105 "is_name" = true)
    (k105 : PySem.W.keepIn K (.ref f105) = true)
    (a106 : PySem.W.nsIn K mainGlobals "is_walker" = some (some (.ref f106)))
    (l106 : K.lookup f106 = some ⟨oc106, od106, .func (PySem.W.fnOf "is_walker" "is_walker" (defArgs sIsWalker) (defBody sIsWalker) (defScope sIsWalker) .none kV106 dc106 pm106 an106 cd106 ct106), sl106⟩)
    (c106 : PySem.W.codeIn K cd106 "is_walker" = true)
    (k106 : PySem.W.keepIn K (.ref f106) = true)
    (a107 : PySem.W.nsIn K mainGlobals "is_dict_of" = some (some (.ref f107)))
    (l107 : K.lookup f107 = some ⟨oc107, od107, .func (PySem.W.fnOf "is_dict_of" "is_dict_of" (defArgs sDictOf) (defBody sDictOf) (defScope sDictOf) .none kV107 dc107 pm107 an107 cd107 ct107), sl107⟩)
    (c107 : PySem.W.codeIn K cd107 "is_dict_of" = true)
    (k107 : PySem.W.keepIn K (.ref f107) = true)
    (a108 : PySem.W.nsIn K mainGlobals "first_stranger" = some (some (.ref f108)))
    (l108 : K.lookup f108 = some ⟨oc108, od108, .func (PySem.W.fnOf "first_stranger" "first_stranger" (defArgs sStranger) (defBody sStranger) (defScope sStranger) .none kV108 dc108 pm108 an108 cd108 ct108), sl108⟩)
    (c108 : PySem.W.codeIn K cd108 "first_stranger" = true)
    (k108 : PySem.W.keepIn K (.ref f108) = true)
    (a109 : PySem.W.nsIn K mainGlobals "is_standing" = some (some (.ref f109)))
    (l109 : K.lookup f109 = some ⟨oc109, od109, .func (PySem.W.fnOf "is_standing" "is_standing" (defArgs sStanding) (defBody sStanding) (defScope sStanding) .none kV109 dc109 pm109 an109 cd109 ct109), sl109⟩)
    (c109 : PySem.W.codeIn K cd109 "is_standing" = true)
    (k109 : PySem.W.keepIn K (.ref f109) = true)
    (a110 : PySem.W.nsIn K mainGlobals "need_stand" = some (some (.ref f110)))
    (l110 : K.lookup f110 = some ⟨oc110, od110, .func (PySem.W.fnOf "need_stand" "need_stand" (defArgs sNeedSt) (defBody sNeedSt) (defScope sNeedSt) .none kV110 dc110 pm110 an110 cd110 ct110), sl110⟩)
    (c110 : PySem.W.codeIn K cd110 "need_stand" = true)
    (k110 : PySem.W.keepIn K (.ref f110) = true)
    (a111 : PySem.W.findIn K (.ref C) "__init__" = some (some (.ref f111)))
    (i111 : PySem.W.isFn K (.ref f111) = true)
    (l111 : K.lookup f111 = some ⟨oc111, od111, .func (PySem.W.fnOf "__init__" "Path.__init__" (defArgs sInit) (defBody sInit) (defScope sInit) .none kV111 dc111 pm111 an111 cd111 ct111), sl111⟩)
    (c111 : PySem.W.codeIn K cd111 "Path.__init__" = true)
    (k111 : PySem.W.keepIn K (.ref f111) = true)
    (a112 : PySem.W.findIn K (.ref C) "walkers" = some (some (.ref f112)))
    (i112 : PySem.W.isFn K (.ref f112) = true)
    (l112 : K.lookup f112 = some ⟨oc112, od112, .func (PySem.W.fnOf "walkers" "Path.walkers" (defArgs sWalkers) (defBody sWalkers) (defScope sWalkers) .none kV112 dc112 pm112 an112 cd112 ct112), sl112⟩)
    (c112 : PySem.W.codeIn K cd112 "Path.walkers" = true)
    (k112 : PySem.W.keepIn K (.ref f112) = true)
    (a113 : PySem.W.findIn K (.ref C) "__eq__" = some (some (.ref f113)))
    (i113 : PySem.W.isFn K (.ref f113) = true)
    (l113 : K.lookup f113 = some ⟨oc113, od113, .func (PySem.W.fnOf "__eq__" "Path.__eq__" (defArgs sEq) (defBody sEq) (defScope sEq) .none kV113 dc113 pm113 an113 cd113 ct113), sl113⟩)
    (c113 : PySem.W.codeIn K cd113 "Path.__eq__" = true)
    (k113 : PySem.W.keepIn K (.ref f113) = true)
    (a114 : PySem.W.nsIn K mainGlobals "walkers_of" = some (some (.ref f114)))
    (l114 : K.lookup f114 = some ⟨oc114, od114, .func (PySem.W.fnOf "walkers_of" "walkers_of" (defArgs sWalkersOf) (defBody sWalkersOf) (defScope sWalkersOf) .none kV114 dc114 pm114 an114 cd114 ct114), sl114⟩)
    (c114 : PySem.W.codeIn K cd114 "walkers_of" = true)
    (k114 : PySem.W.keepIn K (.ref f114) = true)
    (a115 : PySem.W.nsIn K mainGlobals "need_photo" = some (some (.ref f115)))
    (l115 : K.lookup f115 = some ⟨oc115, od115, .func (PySem.W.fnOf "need_photo" "need_photo" (defArgs sNeedPhoto) (defBody sNeedPhoto) (defScope sNeedPhoto) .none kV115 dc115 pm115 an115 cd115 ct115), sl115⟩)
    (c115 : PySem.W.codeIn K cd115 "need_photo" = true)
    (k115 : PySem.W.keepIn K (.ref f115) = true)
    (a116 : PySem.W.nsIn K mainGlobals "is_photograph" = some (some (.ref f116)))
    (l116 : K.lookup f116 = some ⟨oc116, od116, .func (PySem.W.fnOf "is_photograph" "is_photograph" (defArgs sIsPhoto) (defBody sIsPhoto) (defScope sIsPhoto) .none kV116 dc116 pm116 an116 cd116 ct116), sl116⟩)
    (c116 : PySem.W.codeIn K cd116 "is_photograph" = true)
    (k116 : PySem.W.keepIn K (.ref f116) = true)
    (a117 : PySem.W.nsIn K mainGlobals "rests_in" = some (some (.ref f117)))
    (l117 : K.lookup f117 = some ⟨oc117, od117, .func (PySem.W.fnOf "rests_in" "rests_in" (defArgs sRestsIn) (defBody sRestsIn) (defScope sRestsIn) .none kV117 dc117 pm117 an117 cd117 ct117), sl117⟩)
    (c117 : PySem.W.codeIn K cd117 "rests_in" = true)
    (k117 : PySem.W.keepIn K (.ref f117) = true)
    (a118 : PySem.W.nsIn K mainGlobals "turned_by" = some (some (.ref f118)))
    (l118 : K.lookup f118 = some ⟨oc118, od118, .func (PySem.W.fnOf "turned_by" "turned_by" (defArgs sTurnedBy) (defBody sTurnedBy) (defScope sTurnedBy) .none kV118 dc118 pm118 an118 cd118 ct118), sl118⟩)
    (c118 : PySem.W.codeIn K cd118 "turned_by" = true)
    (k118 : PySem.W.keepIn K (.ref f118) = true)
    (a119 : PySem.W.nsIn K mainGlobals "photo_of" = some (some (.ref f119)))
    (l119 : K.lookup f119 = some ⟨oc119, od119, .func (PySem.W.fnOf "photo_of" "photo_of" (defArgs sPhotoOf) (defBody sPhotoOf) (defScope sPhotoOf) .none kV119 dc119 pm119 an119 (.ref ct_119) ct119), sl119⟩)
    (c119 : PySem.W.codeIn K (.ref ct_119) "photo_of" = true)
    (k119 : PySem.W.keepIn K (.ref f119) = true)
    (a120 : PySem.W.nsIn K mainGlobals "is_photo" = some (some (.ref f120)))
    (l120 : K.lookup f120 = some ⟨oc120, od120, .func (PySem.W.fnOf "is_photo" "is_photo" (defArgs sIsPhotoP) (defBody sIsPhotoP) (defScope sIsPhotoP) .none kV120 dc120 pm120 an120 cd120 ct120), sl120⟩)
    (c120 : PySem.W.codeIn K cd120 "is_photo" = true)
    (k120 : PySem.W.keepIn K (.ref f120) = true)
    (a121 : PySem.W.nsIn K mainGlobals "laps_of" = some (some (.ref f121)))
    (l121 : K.lookup f121 = some ⟨oc121, od121, .func (PySem.W.fnOf "laps_of" "laps_of" (defArgs sLapsOf) (defBody sLapsOf) (defScope sLapsOf) .none kV121 dc121 pm121 an121 cd121 ct121), sl121⟩)
    (c121 : PySem.W.codeIn K cd121 "laps_of" = true)
    (k121 : PySem.W.keepIn K (.ref f121) = true)
    (a122 : PySem.W.nsIn K mainGlobals "stand_of_laps" = some (some (.ref f122)))
    (l122 : K.lookup f122 = some ⟨oc122, od122, .func (PySem.W.fnOf "stand_of_laps" "stand_of_laps" (defArgs sStOfLaps) (defBody sStOfLaps) (defScope sStOfLaps) .none kV122 dc122 pm122 an122 cd122 ct122), sl122⟩)
    (c122 : PySem.W.codeIn K cd122 "stand_of_laps" = true)
    (k122 : PySem.W.keepIn K (.ref f122) = true)
    (a123 : PySem.W.nsIn K mainGlobals "photo_turned" = some (some (.ref f123)))
    (l123 : K.lookup f123 = some ⟨oc123, od123, .func (PySem.W.fnOf "photo_turned" "photo_turned" (defArgs sPhotoTurned) (defBody sPhotoTurned) (defScope sPhotoTurned) .none kV123 dc123 pm123 an123 cd123 ct123), sl123⟩)
    (c123 : PySem.W.codeIn K cd123 "photo_turned" = true)
    (k123 : PySem.W.keepIn K (.ref f123) = true)
    (a124 : PySem.W.nsIn K mainGlobals "_law_cell" = some (some (.ref f124)))
    (l124 : K.lookup f124 = some ⟨oc124, od124, .func (PySem.W.fnOf "_law_cell" "_law_cell" (defArgs sCell) (defBody sCell) (defScope sCell) .none kV124 dc124 pm124 an124 cd124 ct124), sl124⟩)
    (c124 : PySem.W.codeIn K cd124 "_law_cell" = true)
    (k124 : PySem.W.keepIn K (.ref f124) = true)
    (a125 : PySem.W.nsIn K mainGlobals "_law_source" = some (some (.ref f125)))
    (l125 : K.lookup f125 = some ⟨oc125, od125, .func (PySem.W.fnOf "_law_source" "_law_source" (defArgs sSource) (defBody sSource) (defScope sSource) .none kV125 dc125 pm125 an125 cd125 ct125), sl125⟩)
    (c125 : PySem.W.codeIn K cd125 "_law_source" = true)
    (k125 : PySem.W.keepIn K (.ref f125) = true)
    (a126 : PySem.W.nsIn K mainGlobals "_law_draw" = some (some (.ref f126)))
    (l126 : K.lookup f126 = some ⟨oc126, od126, .func (PySem.W.fnOf "_law_draw" "_law_draw" (defArgs sDrawB) (defBody sDrawB) (defScope sDrawB) .none kV126 dc126 pm126 an126 cd126 ct126), sl126⟩)
    (c126 : PySem.W.codeIn K cd126 "_law_draw" = true)
    (k126 : PySem.W.keepIn K (.ref f126) = true)
    (a127 : PySem.W.nsIn K mainGlobals "_law_pick" = some (some (.ref f127)))
    (l127 : K.lookup f127 = some ⟨oc127, od127, .func (PySem.W.fnOf "_law_pick" "_law_pick" (defArgs sPickB) (defBody sPickB) (defScope sPickB) .none kV127 dc127 pm127 an127 cd127 ct127), sl127⟩)
    (c127 : PySem.W.codeIn K cd127 "_law_pick" = true)
    (k127 : PySem.W.keepIn K (.ref f127) = true)
    (a128 : PySem.W.nsIn K mainGlobals "_law_mixed" = some (some (.ref f128)))
    (l128 : K.lookup f128 = some ⟨oc128, od128, .func (PySem.W.fnOf "_law_mixed" "_law_mixed" (defArgs sMixedB) (defBody sMixedB) (defScope sMixedB) .none kV128 dc128 pm128 an128 cd128 ct128), sl128⟩)
    (c128 : PySem.W.codeIn K cd128 "_law_mixed" = true)
    (k128 : PySem.W.keepIn K (.ref f128) = true)
    (a129 : PySem.W.nsIn K mainGlobals "_law_same" = some (some (.ref f129)))
    (l129 : K.lookup f129 = some ⟨oc129, od129, .func (PySem.W.fnOf "_law_same" "_law_same" (defArgs sSameB) (defBody sSameB) (defScope sSameB) .none kV129 dc129 pm129 an129 cd129 ct129), sl129⟩)
    (c129 : PySem.W.codeIn K cd129 "_law_same" = true)
    (k129 : PySem.W.keepIn K (.ref f129) = true)
    (a130 : PySem.W.nsIn K mainGlobals "_law_w_names" = some (some (.ref f130)))
    (l130 : K.lookup f130 = some ⟨oc130, od130, .func (PySem.W.fnOf "_law_w_names" "_law_w_names" (defArgs sWNames) (defBody sWNames) (defScope sWNames) .none kV130 dc130 pm130 an130 cd130 ct130), sl130⟩)
    (c130 : PySem.W.codeIn K cd130 "_law_w_names" = true)
    (k130 : PySem.W.keepIn K (.ref f130) = true)
    (a131 : PySem.W.nsIn K mainGlobals "_law_w_path" = some (some (.ref f131)))
    (l131 : K.lookup f131 = some ⟨oc131, od131, .func (PySem.W.fnOf "_law_w_path" "_law_w_path" (defArgs sWPath) (defBody sWPath) (defScope sWPath) .none kV131 dc131 pm131 an131 cd131 ct131), sl131⟩)
    (c131 : PySem.W.codeIn K cd131 "_law_w_path" = true)
    (k131 : PySem.W.keepIn K (.ref f131) = true)
    (a132 : PySem.W.nsIn K mainGlobals "_law_w_places" = some (some (.ref f132)))
    (l132 : K.lookup f132 = some ⟨oc132, od132, .func (PySem.W.fnOf "_law_w_places" "_law_w_places" (defArgs sWPlaces) (defBody sWPlaces) (defScope sWPlaces) .none kV132 dc132 pm132 an132 cd132 ct132), sl132⟩)
    (c132 : PySem.W.codeIn K cd132 "_law_w_places" = true)
    (k132 : PySem.W.keepIn K (.ref f132) = true)
    (a133 : PySem.W.nsIn K mainGlobals "_law_w_far" = some (some (.ref f133)))
    (l133 : K.lookup f133 = some ⟨oc133, od133, .func (PySem.W.fnOf "_law_w_far" "_law_w_far" (defArgs sWFar) (defBody sWFar) (defScope sWFar) .none kV133 dc133 pm133 an133 cd133 ct133), sl133⟩)
    (c133 : PySem.W.codeIn K cd133 "_law_w_far" = true)
    (k133 : PySem.W.keepIn K (.ref f133) = true)
    (a134 : PySem.W.nsIn K mainGlobals "_law_w_dict" = some (some (.ref f134)))
    (l134 : K.lookup f134 = some ⟨oc134, od134, .func (PySem.W.fnOf "_law_w_dict" "_law_w_dict" (defArgs sWDict) (defBody sWDict) (defScope sWDict) .none kV134 dc134 pm134 an134 cd134 ct134), sl134⟩)
    (c134 : PySem.W.codeIn K cd134 "_law_w_dict" = true)
    (k134 : PySem.W.keepIn K (.ref f134) = true)
    (a135 : PySem.W.nsIn K mainGlobals "_law_w_handed" = some (some (.ref f135)))
    (l135 : K.lookup f135 = some ⟨oc135, od135, .func (PySem.W.fnOf "_law_w_handed" "_law_w_handed" (defArgs sWHand) (defBody sWHand) (defScope sWHand) .none kV135 dc135 pm135 an135 cd135 ct135), sl135⟩)
    (c135 : PySem.W.codeIn K cd135 "_law_w_handed" = true)
    (k135 : PySem.W.keepIn K (.ref f135) = true)
    (a136 : PySem.W.nsIn K mainGlobals "_law_w_odd_stands" = some (some (.ref f136)))
    (l136 : K.lookup f136 = some ⟨oc136, od136, .func (PySem.W.fnOf "_law_w_odd_stands" "_law_w_odd_stands" (defArgs sOddSt) (defBody sOddSt) (defScope sOddSt) .none kV136 dc136 pm136 an136 cd136 ct136), sl136⟩)
    (c136 : PySem.W.codeIn K cd136 "_law_w_odd_stands" = true)
    (k136 : PySem.W.keepIn K (.ref f136) = true)
    (a137 : PySem.W.nsIn K mainGlobals "_law_w_odd_paths" = some (some (.ref f137)))
    (l137 : K.lookup f137 = some ⟨oc137, od137, .func (PySem.W.fnOf "_law_w_odd_paths" "_law_w_odd_paths" (defArgs sOddPa) (defBody sOddPa) (defScope sOddPa) .none kV137 dc137 pm137 an137 cd137 ct137), sl137⟩)
    (c137 : PySem.W.codeIn K cd137 "_law_w_odd_paths" = true)
    (k137 : PySem.W.keepIn K (.ref f137) = true)
    (a138 : PySem.W.nsIn K mainGlobals "_law_w_lap" = some (some (.ref f138)))
    (l138 : K.lookup f138 = some ⟨oc138, od138, .func (PySem.W.fnOf "_law_w_lap" "_law_w_lap" (defArgs sWLap) (defBody sWLap) (defScope sWLap) .none kV138 dc138 pm138 an138 cd138 ct138), sl138⟩)
    (c138 : PySem.W.codeIn K cd138 "_law_w_lap" = true)
    (k138 : PySem.W.keepIn K (.ref f138) = true)
    (a139 : PySem.W.nsIn K mainGlobals "_law_w_photo" = some (some (.ref f139)))
    (l139 : K.lookup f139 = some ⟨oc139, od139, .func (PySem.W.fnOf "_law_w_photo" "_law_w_photo" (defArgs sWPhoto) (defBody sWPhoto) (defScope sWPhoto) .none kV139 dc139 pm139 an139 cd139 ct139), sl139⟩)
    (c139 : PySem.W.codeIn K cd139 "_law_w_photo" = true)
    (k139 : PySem.W.keepIn K (.ref f139) = true)
    (a140 : PySem.W.nsIn K mainGlobals "_law_w_odd_photos" = some (some (.ref f140)))
    (l140 : K.lookup f140 = some ⟨oc140, od140, .func (PySem.W.fnOf "_law_w_odd_photos" "_law_w_odd_photos" (defArgs sOddPh) (defBody sOddPh) (defScope sOddPh) .none kV140 dc140 pm140 an140 cd140 ct140), sl140⟩)
    (c140 : PySem.W.codeIn K cd140 "_law_w_odd_photos" = true)
    (k140 : PySem.W.keepIn K (.ref f140) = true)
    (a141 : PySem.W.nsIn K mainGlobals "_law_met" = some (some (.ref f141)))
    (l141 : K.lookup f141 = some ⟨oc141, od141, .func (PySem.W.fnOf "_law_met" "_law_met" (defArgs sMet) (defBody sMet) (defScope sMet) .none kV141 dc141 pm141 an141 cd141 ct141), sl141⟩)
    (c141 : PySem.W.codeIn K cd141 "_law_met" = true)
    (k141 : PySem.W.keepIn K (.ref f141) = true)
    (a142 : PySem.W.nsIn K mainGlobals "_law_stands_right" = some (some (.ref f142)))
    (l142 : K.lookup f142 = some ⟨oc142, od142, .func (PySem.W.fnOf "_law_stands_right" "_law_stands_right" (defArgs sStandsR) (defBody sStandsR) (defScope sStandsR) .none kV142 dc142 pm142 an142 cd142 ct142), sl142⟩)
    (c142 : PySem.W.codeIn K cd142 "_law_stands_right" = true)
    (k142 : PySem.W.keepIn K (.ref f142) = true)
    (a143 : PySem.W.nsIn K mainGlobals "_law_odds_right" = some (some (.ref f143)))
    (l143 : K.lookup f143 = some ⟨oc143, od143, .func (PySem.W.fnOf "_law_odds_right" "_law_odds_right" (defArgs sOddsR) (defBody sOddsR) (defScope sOddsR) .none kV143 dc143 pm143 an143 (.ref ct_143) ct143), sl143⟩)
    (c143 : PySem.W.codeIn K (.ref ct_143) "_law_odds_right" = true)
    (k143 : PySem.W.keepIn K (.ref f143) = true)
    (a144 : PySem.W.nsIn K mainGlobals "law" = some (some (.ref f144)))
    (l144 : K.lookup f144 = some ⟨oc144, od144, .func (PySem.W.fnOf "law" "law" (defArgs sLaw) (defBody sLaw) (defScope sLaw) .none kV144 dc144 pm144 an144 cd144 ct144), sl144⟩)
    (c144 : PySem.W.codeIn K cd144 "law" = true)
    (k144 : PySem.W.keepIn K (.ref f144) = true)
    (lct_119 : K.lookup ct_119 = some ⟨occt_119, odct_119, .fields vsct_119, slct_119⟩)
    (v11_119 : vsct_119[11]? = some (.ref Pt_119))
    (tbn_119 : K.lookup Pt_119 = none)
    (lct_143 : K.lookup ct_143 = some ⟨occt_143, odct_143, .fields vsct_143, slct_143⟩)
    (v11_143 : vsct_143[11]? = some (.ref Pt_143))
    (tbn_143 : K.lookup Pt_143 = none)
    (un0_1 : Pt_119 ≠ Pt_143)
    (pg : PySem.W.plainGet K C Str.empty = true)
    (hd : PySem.W.hasDictIn K C = true)
    (po : PySem.W.plainOver K C = true)
    (sa : PySem.W.findIn K (.ref C) "__setattr__" = some (some (.builtin "object.__setattr__")))
    (mk : PySem.W.makesIn K C = true)
    (kc : PySem.W.keepIn K (.ref C) = true)
    (nN : PySem.W.findIn K (.ref C) "_names" = some none)
    (cls1 : PySem.W.findIn K (.ref C) "__class__" = some (some (.builtin "object.__class__")))
    (spec : PySem.W.specialIn K (.builtin "object.__class__") "__get__" = some (some (.builtin "getset_descriptor.__get__")))
    (tak : PySem.W.takesIn K (.builtin "object.__class__") = some true)
    (mo : PySem.W.mroIn K C (.type "object") = some true)
    (icC : PySem.W.isClsIn K C = true)
    (tyC : PySem.W.typeIn K (.ref C) = some (.type "type"))
    (neF : PySem.W.findIn K (.ref C) "__ne__" = some (some (.builtin "object.__ne__")))
    (z_isinstance : PySem.W.nsIn K mainGlobals "isinstance" = some none)
    (z_list : PySem.W.nsIn K mainGlobals "list" = some none)
    (z_tuple : PySem.W.nsIn K mainGlobals "tuple" = some none)
    (z_str : PySem.W.nsIn K mainGlobals "str" = some none)
    (z_len : PySem.W.nsIn K mainGlobals "len" = some none)
    (z_all : PySem.W.nsIn K mainGlobals "all" = some none)
    (z_any : PySem.W.nsIn K mainGlobals "any" = some none)
    (z_enumerate : PySem.W.nsIn K mainGlobals "enumerate" = some none)
    (z_int : PySem.W.nsIn K mainGlobals "int" = some none)
    (z_range : PySem.W.nsIn K mainGlobals "range" = some none)
    (z_dict : PySem.W.nsIn K mainGlobals "dict" = some none)
    (z_bool : PySem.W.nsIn K mainGlobals "bool" = some none)
    (z_zip : PySem.W.nsIn K mainGlobals "zip" = some none)
    (z_sum : PySem.W.nsIn K mainGlobals "sum" = some none)
    (z_repr : PySem.W.nsIn K mainGlobals "repr" = some none)
    (z_abs : PySem.W.nsIn K mainGlobals "abs" = some none)
    (z_sorted : PySem.W.nsIn K mainGlobals "sorted" = some none)
    (v1 : PySem.W.nsIn K mainGlobals "FIRST_SIGNS" = some (some (.str "abcdefghijklmnopqrstuvwxyz" t1)))
    (v2 : PySem.W.nsIn K mainGlobals "LATER_SIGNS" = some (some (.str "abcdefghijklmnopqrstuvwxyz0123456789" t2)))
    (v3 : PySem.W.nsIn K mainGlobals "LONGEST_NAME" = some (some (.int 8 t3)))
    (xtp : PySem.W.nsIn K cStatics "thirdparty.any" = some none)
    (xgS : PySem.W.nsIn K mainGlobals "super" = some none)
    (xtop : (P.main.scope.names.lookup ("super" : Str)).isSome = false)
    (xL50 : K.lookup C50 = some (excClassObj nm50 q50 C50 N50 bs50 bm50 true sn50 sub50 ab50 col50 dd50 m050 m150 m250 m350 m550 "ValueError.__new__"))
    (xR50 : PySem.HandSPX.refsVE bm50 = true)
    (xi50 : PySem.W.excInitIn K C50 [.type "ValueError", .type "Exception", .type "BaseException", .type "object"] "ValueError.__new__" = true)
    (xs50 : PySem.W.ks_superIn K C50 C50 "__init__" = some (some (.builtin "ValueError.__init__")))
    (xV50 : PySem.W.subIn K (.ref C50) (.type "ValueError") = some true)
    (xM50 : PySem.W.mroIn K C50 (.ref C50) = some true)
    (xsa50 : PySem.W.findIn K (.ref C50) "__setattr__" = some (some (.builtin "object.__setattr__")))
    (xga50 : PySem.W.findIn K (.ref C50) "__getattribute__" = some (some (.builtin "BaseException.__getattribute__")))
    (xgg50 : PySem.W.findIn K (.ref C50) "__getattr__" = some none)
    (xno50 : PySem.W.findIn K (.ref C50) "index" = some none)
    (xtC50 : PySem.W.typeIn K (.ref e50) = some (.type "function"))
    (xkC50 : PySem.W.keepIn K (.ref C50) = true)
    (xeC50 : PySem.W.subIn K (.ref C50) (.type "BaseException") = some true)
    (xyC50 : PySem.W.typeIn K (.ref C50) = some (.type "type"))
    (xhC50 : PySem.W.hasDictIn K C50 = true)
    (xic50 : PySem.W.isClsIn K C50 = true)
    (xss50 : PySem.W.subIn K (.ref C50) (.ref C50) = some true)
    (le50 : K.lookup e50 = some ⟨oce50, ode50, .func (PySem.W.ksFn "__init__" "BadWalkers.__init__" (PySem.XW.xA "index" ⟨6, 17, 6, 21⟩ ⟨6, 23, 6, 28⟩) [PySem.XW.xB1 "no list of two or more unlike names" ⟨7, 8, 7, 13⟩ ⟨7, 8, 7, 15⟩ ⟨7, 8, 7, 24⟩ ⟨7, 25, 7, 62⟩ ⟨7, 8, 7, 63⟩ ⟨7, 8, 7, 63⟩, PySem.XW.xB2 "index" ⟨8, 8, 8, 12⟩ ⟨8, 8, 8, 18⟩ ⟨8, 21, 8, 26⟩ ⟨8, 8, 8, 26⟩] (PySem.XW.xS "index") .none .none dce50 pme50 ane50 (.ref cda50) cte50 cc50), sle50⟩)
    (ce50 : PySem.W.codeIn K (.ref cda50) "BadWalkers.__init__" = true)
    (x150 : K.lookup cda50 = some ⟨ccl50, cdd50, .fields vs50, ccs50⟩)
    (x250 : vs50[2]? = some (.str file50 tf50))
    (x350 : ((P.main.file : Str) == file50) = true)
    (x450 : K.lookup cc50 = some ⟨cl50, cld50, .cell (some (.ref C50)), csl50⟩)
    (xL51 : K.lookup C51 = some (excClassObj nm51 q51 C51 N51 bs51 bm51 true sn51 sub51 ab51 col51 dd51 m051 m151 m251 m351 m551 "ValueError.__new__"))
    (xR51 : PySem.HandSPX.refsVE bm51 = true)
    (xi51 : PySem.W.excInitIn K C51 [.type "ValueError", .type "Exception", .type "BaseException", .type "object"] "ValueError.__new__" = true)
    (xs51 : PySem.W.ks_superIn K C51 C51 "__init__" = some (some (.builtin "ValueError.__init__")))
    (xV51 : PySem.W.subIn K (.ref C51) (.type "ValueError") = some true)
    (xM51 : PySem.W.mroIn K C51 (.ref C51) = some true)
    (xsa51 : PySem.W.findIn K (.ref C51) "__setattr__" = some (some (.builtin "object.__setattr__")))
    (xga51 : PySem.W.findIn K (.ref C51) "__getattribute__" = some (some (.builtin "BaseException.__getattribute__")))
    (xgg51 : PySem.W.findIn K (.ref C51) "__getattr__" = some none)
    (xno51 : PySem.W.findIn K (.ref C51) "thing" = some none)
    (xtC51 : PySem.W.typeIn K (.ref e51) = some (.type "function"))
    (xkC51 : PySem.W.keepIn K (.ref C51) = true)
    (xeC51 : PySem.W.subIn K (.ref C51) (.type "BaseException") = some true)
    (xyC51 : PySem.W.typeIn K (.ref C51) = some (.type "type"))
    (xhC51 : PySem.W.hasDictIn K C51 = true)
    (xic51 : PySem.W.isClsIn K C51 = true)
    (xss51 : PySem.W.subIn K (.ref C51) (.ref C51) = some true)
    (le51 : K.lookup e51 = some ⟨oce51, ode51, .func (PySem.W.ksFn "__init__" "BadPath.__init__" (PySem.XW.xA "thing" ⟨11, 17, 11, 21⟩ ⟨11, 23, 11, 28⟩) [PySem.XW.xB1 "no path" ⟨12, 8, 12, 13⟩ ⟨12, 8, 12, 15⟩ ⟨12, 8, 12, 24⟩ ⟨12, 25, 12, 34⟩ ⟨12, 8, 12, 35⟩ ⟨12, 8, 12, 35⟩, PySem.XW.xB2 "thing" ⟨13, 8, 13, 12⟩ ⟨13, 8, 13, 18⟩ ⟨13, 21, 13, 26⟩ ⟨13, 8, 13, 26⟩] (PySem.XW.xS "thing") .none .none dce51 pme51 ane51 (.ref cda51) cte51 cc51), sle51⟩)
    (ce51 : PySem.W.codeIn K (.ref cda51) "BadPath.__init__" = true)
    (x151 : K.lookup cda51 = some ⟨ccl51, cdd51, .fields vs51, ccs51⟩)
    (x251 : vs51[2]? = some (.str file51 tf51))
    (x351 : ((P.main.file : Str) == file51) = true)
    (x451 : K.lookup cc51 = some ⟨cl51, cld51, .cell (some (.ref C51)), csl51⟩)
    (xL52 : K.lookup C52 = some (excClassObj nm52 q52 C52 N52 bs52 bm52 true sn52 sub52 ab52 col52 dd52 m052 m152 m252 m352 m552 "ValueError.__new__"))
    (xR52 : PySem.HandSPX.refsVE bm52 = true)
    (xi52 : PySem.W.excInitIn K C52 [.type "ValueError", .type "Exception", .type "BaseException", .type "object"] "ValueError.__new__" = true)
    (xs52 : PySem.W.ks_superIn K C52 C52 "__init__" = some (some (.builtin "ValueError.__init__")))
    (xV52 : PySem.W.subIn K (.ref C52) (.type "ValueError") = some true)
    (xM52 : PySem.W.mroIn K C52 (.ref C52) = some true)
    (xsa52 : PySem.W.findIn K (.ref C52) "__setattr__" = some (some (.builtin "object.__setattr__")))
    (xga52 : PySem.W.findIn K (.ref C52) "__getattribute__" = some (some (.builtin "BaseException.__getattribute__")))
    (xgg52 : PySem.W.findIn K (.ref C52) "__getattr__" = some none)
    (xno52 : PySem.W.findIn K (.ref C52) "stand" = some none)
    (xtC52 : PySem.W.typeIn K (.ref e52) = some (.type "function"))
    (xkC52 : PySem.W.keepIn K (.ref C52) = true)
    (xeC52 : PySem.W.subIn K (.ref C52) (.type "BaseException") = some true)
    (xyC52 : PySem.W.typeIn K (.ref C52) = some (.type "type"))
    (xhC52 : PySem.W.hasDictIn K C52 = true)
    (xic52 : PySem.W.isClsIn K C52 = true)
    (xss52 : PySem.W.subIn K (.ref C52) (.ref C52) = some true)
    (le52 : K.lookup e52 = some ⟨oce52, ode52, .func (PySem.W.ksFn "__init__" "BadStand.__init__" (PySem.XW.xA "stand" ⟨16, 17, 16, 21⟩ ⟨16, 23, 16, 28⟩) [PySem.XW.xB1 "no stand of the path" ⟨17, 8, 17, 13⟩ ⟨17, 8, 17, 15⟩ ⟨17, 8, 17, 24⟩ ⟨17, 25, 17, 47⟩ ⟨17, 8, 17, 48⟩ ⟨17, 8, 17, 48⟩, PySem.XW.xB2 "stand" ⟨18, 8, 18, 12⟩ ⟨18, 8, 18, 18⟩ ⟨18, 21, 18, 26⟩ ⟨18, 8, 18, 26⟩] (PySem.XW.xS "stand") .none .none dce52 pme52 ane52 (.ref cda52) cte52 cc52), sle52⟩)
    (ce52 : PySem.W.codeIn K (.ref cda52) "BadStand.__init__" = true)
    (x152 : K.lookup cda52 = some ⟨ccl52, cdd52, .fields vs52, ccs52⟩)
    (x252 : vs52[2]? = some (.str file52 tf52))
    (x352 : ((P.main.file : Str) == file52) = true)
    (x452 : K.lookup cc52 = some ⟨cl52, cld52, .cell (some (.ref C52)), csl52⟩)
    (xL53 : K.lookup C53 = some (excClassObj nm53 q53 C53 N53 bs53 bm53 true sn53 sub53 ab53 col53 dd53 m053 m153 m253 m353 m553 "ValueError.__new__"))
    (xR53 : PySem.HandSPX.refsVE bm53 = true)
    (xi53 : PySem.W.excInitIn K C53 [.type "ValueError", .type "Exception", .type "BaseException", .type "object"] "ValueError.__new__" = true)
    (xs53 : PySem.W.ks_superIn K C53 C53 "__init__" = some (some (.builtin "ValueError.__init__")))
    (xV53 : PySem.W.subIn K (.ref C53) (.type "ValueError") = some true)
    (xM53 : PySem.W.mroIn K C53 (.ref C53) = some true)
    (xsa53 : PySem.W.findIn K (.ref C53) "__setattr__" = some (some (.builtin "object.__setattr__")))
    (xga53 : PySem.W.findIn K (.ref C53) "__getattribute__" = some (some (.builtin "BaseException.__getattribute__")))
    (xgg53 : PySem.W.findIn K (.ref C53) "__getattr__" = some none)
    (xno53 : PySem.W.findIn K (.ref C53) "photo" = some none)
    (xtC53 : PySem.W.typeIn K (.ref e53) = some (.type "function"))
    (xkC53 : PySem.W.keepIn K (.ref C53) = true)
    (xeC53 : PySem.W.subIn K (.ref C53) (.type "BaseException") = some true)
    (xyC53 : PySem.W.typeIn K (.ref C53) = some (.type "type"))
    (xhC53 : PySem.W.hasDictIn K C53 = true)
    (xic53 : PySem.W.isClsIn K C53 = true)
    (xss53 : PySem.W.subIn K (.ref C53) (.ref C53) = some true)
    (le53 : K.lookup e53 = some ⟨oce53, ode53, .func (PySem.W.ksFn "__init__" "BadPhoto.__init__" (PySem.XW.xA "photo" ⟨90, 17, 90, 21⟩ ⟨90, 23, 90, 28⟩) [PySem.XW.xB1 "no photo of the walkers" ⟨91, 8, 91, 13⟩ ⟨91, 8, 91, 15⟩ ⟨91, 8, 91, 24⟩ ⟨91, 25, 91, 50⟩ ⟨91, 8, 91, 51⟩ ⟨91, 8, 91, 51⟩, PySem.XW.xB2 "photo" ⟨92, 8, 92, 12⟩ ⟨92, 8, 92, 18⟩ ⟨92, 21, 92, 26⟩ ⟨92, 8, 92, 26⟩] (PySem.XW.xS "photo") .none .none dce53 pme53 ane53 (.ref cda53) cte53 cc53), sle53⟩)
    (ce53 : PySem.W.codeIn K (.ref cda53) "BadPhoto.__init__" = true)
    (x153 : K.lookup cda53 = some ⟨ccl53, cdd53, .fields vs53, ccs53⟩)
    (x253 : vs53[2]? = some (.str file53 tf53))
    (x353 : ((P.main.file : Str) == file53) = true)
    (x453 : K.lookup cc53 = some ⟨cl53, cld53, .cell (some (.ref C53)), csl53⟩)
    (xL54 : K.lookup C54 = some (excClassObj nm54 q54 C54 N54 bs54 bm54 true sn54 sub54 ab54 col54 dd54 m054 m154 m254 m354 m554 "ValueError.__new__"))
    (xR54 : PySem.HandSPX.refsVE bm54 = true)
    (xi54 : PySem.W.excInitIn K C54 [.type "ValueError", .type "Exception", .type "BaseException", .type "object"] "ValueError.__new__" = true)
    (xs54 : PySem.W.ks_superIn K C54 C54 "__init__" = some (some (.builtin "ValueError.__init__")))
    (xV54 : PySem.W.subIn K (.ref C54) (.type "ValueError") = some true)
    (xM54 : PySem.W.mroIn K C54 (.ref C54) = some true)
    (xsa54 : PySem.W.findIn K (.ref C54) "__setattr__" = some (some (.builtin "object.__setattr__")))
    (xga54 : PySem.W.findIn K (.ref C54) "__getattribute__" = some (some (.builtin "BaseException.__getattribute__")))
    (xgg54 : PySem.W.findIn K (.ref C54) "__getattr__" = some none)
    (xno54 : PySem.W.findIn K (.ref C54) "laps" = some none)
    (xtC54 : PySem.W.typeIn K (.ref e54) = some (.type "function"))
    (xkC54 : PySem.W.keepIn K (.ref C54) = true)
    (xeC54 : PySem.W.subIn K (.ref C54) (.type "BaseException") = some true)
    (xyC54 : PySem.W.typeIn K (.ref C54) = some (.type "type"))
    (xhC54 : PySem.W.hasDictIn K C54 = true)
    (xic54 : PySem.W.isClsIn K C54 = true)
    (xss54 : PySem.W.subIn K (.ref C54) (.ref C54) = some true)
    (le54 : K.lookup e54 = some ⟨oce54, ode54, .func (PySem.W.ksFn "__init__" "BadLaps.__init__" (PySem.XW.xA "laps" ⟨95, 17, 95, 21⟩ ⟨95, 23, 95, 27⟩) [PySem.XW.xB1 "no laps" ⟨96, 8, 96, 13⟩ ⟨96, 8, 96, 15⟩ ⟨96, 8, 96, 24⟩ ⟨96, 25, 96, 34⟩ ⟨96, 8, 96, 35⟩ ⟨96, 8, 96, 35⟩, PySem.XW.xB2 "laps" ⟨97, 8, 97, 12⟩ ⟨97, 8, 97, 17⟩ ⟨97, 20, 97, 24⟩ ⟨97, 8, 97, 24⟩] (PySem.XW.xS "laps") .none .none dce54 pme54 ane54 (.ref cda54) cte54 cc54), sle54⟩)
    (ce54 : PySem.W.codeIn K (.ref cda54) "BadLaps.__init__" = true)
    (x154 : K.lookup cda54 = some ⟨ccl54, cdd54, .fields vs54, ccs54⟩)
    (x254 : vs54[2]? = some (.str file54 tf54))
    (x354 : ((P.main.file : Str) == file54) = true)
    (x454 : K.lookup cc54 = some ⟨cl54, cld54, .cell (some (.ref C54)), csl54⟩)
    (xL55 : K.lookup C55 = some (excClassObj nm55 q55 C55 N55 bs55 bm55 true sn55 sub55 ab55 col55 dd55 m055 m155 m255 m355 m555 "ValueError.__new__"))
    (xR55 : PySem.HandSPX.refsVE bm55 = true)
    (xi55 : PySem.W.excInitIn K C55 [.type "ValueError", .type "Exception", .type "BaseException", .type "object"] "ValueError.__new__" = true)
    (xs55 : PySem.W.ks_superIn K C55 C55 "__init__" = some (some (.builtin "ValueError.__init__")))
    (xV55 : PySem.W.subIn K (.ref C55) (.type "ValueError") = some true)
    (xM55 : PySem.W.mroIn K C55 (.ref C55) = some true)
    (xsa55 : PySem.W.findIn K (.ref C55) "__setattr__" = some (some (.builtin "object.__setattr__")))
    (xga55 : PySem.W.findIn K (.ref C55) "__getattribute__" = some (some (.builtin "BaseException.__getattribute__")))
    (xgg55 : PySem.W.findIn K (.ref C55) "__getattr__" = some none)
    (xno55 : PySem.W.findIn K (.ref C55) "many" = some none)
    (xtC55 : PySem.W.typeIn K (.ref e55) = some (.type "function"))
    (xkC55 : PySem.W.keepIn K (.ref C55) = true)
    (xeC55 : PySem.W.subIn K (.ref C55) (.type "BaseException") = some true)
    (xyC55 : PySem.W.typeIn K (.ref C55) = some (.type "type"))
    (xhC55 : PySem.W.hasDictIn K C55 = true)
    (xic55 : PySem.W.isClsIn K C55 = true)
    (xss55 : PySem.W.subIn K (.ref C55) (.ref C55) = some true)
    (le55 : K.lookup e55 = some ⟨oce55, ode55, .func (PySem.W.ksFn "__init__" "BadMany.__init__" (PySem.XW.xA "many" ⟨21, 17, 21, 21⟩ ⟨21, 23, 21, 27⟩) [PySem.XW.xB1 "not so many" ⟨22, 8, 22, 13⟩ ⟨22, 8, 22, 15⟩ ⟨22, 8, 22, 24⟩ ⟨22, 25, 22, 38⟩ ⟨22, 8, 22, 39⟩ ⟨22, 8, 22, 39⟩, PySem.XW.xB2 "many" ⟨23, 8, 23, 12⟩ ⟨23, 8, 23, 17⟩ ⟨23, 20, 23, 24⟩ ⟨23, 8, 23, 24⟩] (PySem.XW.xS "many") .none .none dce55 pme55 ane55 (.ref cda55) cte55 cc55), sle55⟩)
    (ce55 : PySem.W.codeIn K (.ref cda55) "BadMany.__init__" = true)
    (x155 : K.lookup cda55 = some ⟨ccl55, cdd55, .fields vs55, ccs55⟩)
    (x255 : vs55[2]? = some (.str file55 tf55))
    (x355 : ((P.main.file : Str) == file55) = true)
    (x455 : K.lookup cc55 = some ⟨cl55, cld55, .cell (some (.ref C55)), csl55⟩)
    (y1 : PySem.W.exmOne K (.ref C52) (.ref C51) = some false)
    (y2 : PySem.W.exmOne K (.ref C53) (.ref C51) = some false)
    (y3 : PySem.W.exmOne K (.ref C53) (.ref C52) = some false)
    (y4 : PySem.W.exmOne K (.ref C54) (.ref C51) = some false)
    (y5 : PySem.W.exmOne K (.ref C54) (.ref C52) = some false)
    (y6 : PySem.W.exmOne K (.ref C54) (.ref C53) = some false)
    (y7 : PySem.W.exmOne K (.ref C55) (.ref C51) = some false)
    (y8 : PySem.W.exmOne K (.ref C55) (.ref C52) = some false)
    (y9 : PySem.W.exmOne K (.ref C55) (.ref C53) = some false)
    (y10 : PySem.W.exmOne K (.ref C55) (.ref C54) = some false) :
    ∃ (c0_ Pt0_ c1_ Pt1_ : Addr) (fd : FuncData), PySem.W.tabIn K "photo_of" = some (c0_, Pt0_) ∧ PySem.W.tabIn K "_law_odds_right" = some (c1_, Pt1_) ∧ K.lookup Pt0_ = none ∧ K.lookup Pt1_ = none ∧ (∀ (s : Shared) (u : Value), BindsTo s fd ⟨[u], []⟩ [("script", u)]) ∧ ∀ base : Heap, K.In base → base.Ns mainGlobals mg → (∃ mm, base.Ns sysModules mm) → TabB base mg c0_ Pt0_ → TabB base mg c1_ Pt1_ → FnG P w K mg base CX0 11 fa fd ["script"] (spLaw K [(Pt0_, qLamP), (Pt1_, qLam)]) := by
  have tb_119 : PySem.W.tabIn K "photo_of" = some (ct_119, Pt_119) := by
    unfold PySem.W.tabIn
    rw [a119]
    show (match K.lookup f119 with | _ => _) = _
    rw [l119]
    show (match K.lookup ct_119 with | _ => _) = _
    rw [lct_119]
    show (match vsct_119[11]? with | _ => _) = _
    rw [v11_119]
  have tb_143 : PySem.W.tabIn K "_law_odds_right" = some (ct_143, Pt_143) := by
    unfold PySem.W.tabIn
    rw [a143]
    show (match K.lookup f143 with | _ => _) = _
    rw [l143]
    show (match K.lookup ct_143 with | _ => _) = _
    rw [lct_143]
    show (match vsct_143[11]? with | _ => _) = _
    rw [v11_143]
  have e := hfa.symm.trans (PySem.W.mg_of X G a144)
  cases e
  have B : B0 K mg := ⟨PySem.W.mg_none_of X G z_isinstance, PySem.W.mg_none_of X G z_list, PySem.W.mg_none_of X G z_tuple, PySem.W.mg_none_of X G z_str, PySem.W.mg_none_of X G z_len, PySem.W.mg_none_of X G z_all, PySem.W.mg_none_of X G z_any, PySem.W.mg_none_of X G z_enumerate, PySem.W.mg_none_of X G z_int, PySem.W.mg_none_of X G z_range, PySem.W.mg_none_of X G z_dict, PySem.W.mg_none_of X G z_bool, PySem.W.mg_none_of X G z_zip, ⟨_, PySem.W.mg_of X G v1⟩, ⟨_, PySem.W.mg_of X G v2⟩, ⟨_, PySem.W.mg_of X G v3⟩⟩
  have Z_sum := PySem.W.mg_none_of X G z_sum
  have Z_repr := PySem.W.mg_none_of X G z_repr
  have Z_abs := PySem.W.mg_none_of X G z_abs
  have Z_sorted := PySem.W.mg_none_of X G z_sorted
  have X50 : PySem.XW.XTxt P K mg "index" C50 e50 :=
    { fne := by decide, fn1 := by decide, fS := by decide, fK := by decide, fd := by decide, bnd := fun _ _ _ _ _ _ _ _ _ _ _ _ _ => rfl,
      cls := ⟨nm50, q50, N50, bs50, bm50, sn50, sub50, ab50, col50, dd50, m050, m150, m250, m350, m550, xL50, xR50⟩, ini := xi50, sup := xs50, sV := xV50, mC := xM50, tp := xtp, gS := PySem.W.mg_none_of X G xgS, top := xtop, sa := xsa50, ga := xga50, gg := xgg50, noN := xno50, iC := xi50C, tC := xtC50,
      kC := xkC50, exC := xeC50, tyC := xyC50, hdC := xhC50, te := exm_self xeC50 xic50 xyC50 xss50,
      fn := ⟨_, _, _, _, _, _, _, _, _, _, _, _, _, _, _, _, _, _, _, _, _, _, _, le50, ce50, by decide, ⟨_, _, _, _, _, _, x150, x250, x350⟩, _, _, _, x450⟩ }
  have X51 : PySem.XW.XTxt P K mg "thing" C51 e51 :=
    { fne := by decide, fn1 := by decide, fS := by decide, fK := by decide, fd := by decide, bnd := fun _ _ _ _ _ _ _ _ _ _ _ _ _ => rfl,
      cls := ⟨nm51, q51, N51, bs51, bm51, sn51, sub51, ab51, col51, dd51, m051, m151, m251, m351, m551, xL51, xR51⟩, ini := xi51, sup := xs51, sV := xV51, mC := xM51, tp := xtp, gS := PySem.W.mg_none_of X G xgS, top := xtop, sa := xsa51, ga := xga51, gg := xgg51, noN := xno51, iC := xi51C, tC := xtC51,
      kC := xkC51, exC := xeC51, tyC := xyC51, hdC := xhC51, te := exm_self xeC51 xic51 xyC51 xss51,
      fn := ⟨_, _, _, _, _, _, _, _, _, _, _, _, _, _, _, _, _, _, _, _, _, _, _, le51, ce51, by decide, ⟨_, _, _, _, _, _, x151, x251, x351⟩, _, _, _, x451⟩ }
  have E51 : ErrAt P K mg "BadPath" "thing" C51 e51 := ⟨PySem.W.mg_of X G a51, X51⟩
  have X52 : PySem.XW.XTxt P K mg "stand" C52 e52 :=
    { fne := by decide, fn1 := by decide, fS := by decide, fK := by decide, fd := by decide, bnd := fun _ _ _ _ _ _ _ _ _ _ _ _ _ => rfl,
      cls := ⟨nm52, q52, N52, bs52, bm52, sn52, sub52, ab52, col52, dd52, m052, m152, m252, m352, m552, xL52, xR52⟩, ini := xi52, sup := xs52, sV := xV52, mC := xM52, tp := xtp, gS := PySem.W.mg_none_of X G xgS, top := xtop, sa := xsa52, ga := xga52, gg := xgg52, noN := xno52, iC := xi52C, tC := xtC52,
      kC := xkC52, exC := xeC52, tyC := xyC52, hdC := xhC52, te := exm_self xeC52 xic52 xyC52 xss52,
      fn := ⟨_, _, _, _, _, _, _, _, _, _, _, _, _, _, _, _, _, _, _, _, _, _, _, le52, ce52, by decide, ⟨_, _, _, _, _, _, x152, x252, x352⟩, _, _, _, x452⟩ }
  have E52 : ErrAt P K mg "BadStand" "stand" C52 e52 := ⟨PySem.W.mg_of X G a52, X52⟩
  have X53 : PySem.XW.XTxt P K mg "photo" C53 e53 :=
    { fne := by decide, fn1 := by decide, fS := by decide, fK := by decide, fd := by decide, bnd := fun _ _ _ _ _ _ _ _ _ _ _ _ _ => rfl,
      cls := ⟨nm53, q53, N53, bs53, bm53, sn53, sub53, ab53, col53, dd53, m053, m153, m253, m353, m553, xL53, xR53⟩, ini := xi53, sup := xs53, sV := xV53, mC := xM53, tp := xtp, gS := PySem.W.mg_none_of X G xgS, top := xtop, sa := xsa53, ga := xga53, gg := xgg53, noN := xno53, iC := xi53C, tC := xtC53,
      kC := xkC53, exC := xeC53, tyC := xyC53, hdC := xhC53, te := exm_self xeC53 xic53 xyC53 xss53,
      fn := ⟨_, _, _, _, _, _, _, _, _, _, _, _, _, _, _, _, _, _, _, _, _, _, _, le53, ce53, by decide, ⟨_, _, _, _, _, _, x153, x253, x353⟩, _, _, _, x453⟩ }
  have E53 : ErrAt P K mg "BadPhoto" "photo" C53 e53 := ⟨PySem.W.mg_of X G a53, X53⟩
  have X54 : PySem.XW.XTxt P K mg "laps" C54 e54 :=
    { fne := by decide, fn1 := by decide, fS := by decide, fK := by decide, fd := by decide, bnd := fun _ _ _ _ _ _ _ _ _ _ _ _ _ => rfl,
      cls := ⟨nm54, q54, N54, bs54, bm54, sn54, sub54, ab54, col54, dd54, m054, m154, m254, m354, m554, xL54, xR54⟩, ini := xi54, sup := xs54, sV := xV54, mC := xM54, tp := xtp, gS := PySem.W.mg_none_of X G xgS, top := xtop, sa := xsa54, ga := xga54, gg := xgg54, noN := xno54, iC := xi54C, tC := xtC54,
      kC := xkC54, exC := xeC54, tyC := xyC54, hdC := xhC54, te := exm_self xeC54 xic54 xyC54 xss54,
      fn := ⟨_, _, _, _, _, _, _, _, _, _, _, _, _, _, _, _, _, _, _, _, _, _, _, le54, ce54, by decide, ⟨_, _, _, _, _, _, x154, x254, x354⟩, _, _, _, x454⟩ }
  have E54 : ErrAt P K mg "BadLaps" "laps" C54 e54 := ⟨PySem.W.mg_of X G a54, X54⟩
  have X55 : PySem.XW.XTxt P K mg "many" C55 e55 :=
    { fne := by decide, fn1 := by decide, fS := by decide, fK := by decide, fd := by decide, bnd := fun _ _ _ _ _ _ _ _ _ _ _ _ _ => rfl,
      cls := ⟨nm55, q55, N55, bs55, bm55, sn55, sub55, ab55, col55, dd55, m055, m155, m255, m355, m555, xL55, xR55⟩, ini := xi55, sup := xs55, sV := xV55, mC := xM55, tp := xtp, gS := PySem.W.mg_none_of X G xgS, top := xtop, sa := xsa55, ga := xga55, gg := xgg55, noN := xno55, iC := xi55C, tC := xtC55,
      kC := xkC55, exC := xeC55, tyC := xyC55, hdC := xhC55, te := exm_self xeC55 xic55 xyC55 xss55,
      fn := ⟨_, _, _, _, _, _, _, _, _, _, _, _, _, _, _, _, _, _, _, _, _, _, _, le55, ce55, by decide, ⟨_, _, _, _, _, _, x155, x255, x355⟩, _, _, _, x455⟩ }
  have E55 : ErrAt P K mg "BadMany" "many" C55 e55 := ⟨PySem.W.mg_of X G a55, X55⟩
  have T : PT0 P K mg C C50 e50 := ⟨⟨pg, hd, po, sa⟩, nN, PySem.W.mg_of X G aC, PySem.W.mg_of X G a50, X50⟩
  have T1 : PT1 K C f113 := ⟨cls1, spec, tak, mo, isC_of icC tyC, a113, i113, neF⟩
  have F101 := fun_mk (st := sIsInt) l101 c101 k101
  have b101 := F101.binds (ps := ["thing"]) fun _ _ _ _ _ _ us hl => match us, hl with | [_], _ => rfl
  have g101 := PySem.W.mg_of X G a101
  have F102 := fun_mk (st := sIsNumber) l102 c102 k102
  have b102 := F102.binds (ps := ["thing"]) fun _ _ _ _ _ _ us hl => match us, hl with | [_], _ => rfl
  have g102 := PySem.W.mg_of X G a102
  have F103 := fun_mk (st := sIsList) l103 c103 k103
  have b103 := F103.binds (ps := ["thing"]) fun _ _ _ _ _ _ us hl => match us, hl with | [_], _ => rfl
  have g103 := PySem.W.mg_of X G a103
  have F104 := fun_mk (st := sIsListOf) l104 c104 k104
  have b104 := F104.binds (ps := ["many", "thing"]) fun _ _ _ _ _ _ us hl => match us, hl with | [_, _], _ => rfl
  have g104 := PySem.W.mg_of X G a104
  have F105 := fun_mk (st := sIsName) l105 c105 k105
  have b105 := F105.binds (ps := ["thing"]) fun _ _ _ _ _ _ us hl => match us, hl with | [_], _ => rfl
  have g105 := PySem.W.mg_of X G a105
  have F106 := fun_mk (st := sIsWalker) l106 c106 k106
  have b106 := F106.binds (ps := ["names", "thing"]) fun _ _ _ _ _ _ us hl => match us, hl with | [_, _], _ => rfl
  have g106 := PySem.W.mg_of X G a106
  have F107 := fun_mk (st := sDictOf) l107 c107 k107
  have b107 := F107.binds (ps := ["keys", "thing", "is_right"]) fun _ _ _ _ _ _ us hl => match us, hl with | [_, _, _], _ => rfl
  have g107 := PySem.W.mg_of X G a107
  have F108 := fun_mk (st := sStranger) l108 c108 k108
  have b108 := F108.binds (ps := ["names", "things"]) fun _ _ _ _ _ _ us hl => match us, hl with | [_, _], _ => rfl
  have g108 := PySem.W.mg_of X G a108
  have F109 := fun_mk (st := sStanding) l109 c109 k109
  have b109 := F109.binds (ps := ["names", "thing"]) fun _ _ _ _ _ _ us hl => match us, hl with | [_, _], _ => rfl
  have g109 := PySem.W.mg_of X G a109
  have F110 := fun_mk (st := sNeedSt) l110 c110 k110
  have b110 := F110.binds (ps := ["names", "stand"]) fun _ _ _ _ _ _ us hl => match us, hl with | [_, _], _ => rfl
  have g110 := PySem.W.mg_of X G a110
  have F111 := fun_mk (st := sInit) l111 c111 k111
  have b111 := F111.binds (ps := ["self", "walkers"]) fun _ _ _ _ _ _ us hl => match us, hl with | [_, _], _ => rfl
  have F112 := fun_mk (st := sWalkers) l112 c112 k112
  have b112 := F112.binds (ps := ["self"]) fun _ _ _ _ _ _ us hl => match us, hl with | [_], _ => rfl
  have F113 := fun_mk (st := sEq) l113 c113 k113
  have b113 := F113.binds (ps := ["self", "other"]) fun _ _ _ _ _ _ us hl => match us, hl with | [_, _], _ => rfl
  have F114 := fun_mk (st := sWalkersOf) l114 c114 k114
  have b114 := F114.binds (ps := ["path"]) fun _ _ _ _ _ _ us hl => match us, hl with | [_], _ => rfl
  have g114 := PySem.W.mg_of X G a114
  have F115 := fun_mk (st := sNeedPhoto) l115 c115 k115
  have b115 := F115.binds (ps := ["names", "photo"]) fun _ _ _ _ _ _ us hl => match us, hl with | [_, _], _ => rfl
  have g115 := PySem.W.mg_of X G a115
  have F116 := fun_mk (st := sIsPhoto) l116 c116 k116
  have b116 := F116.binds (ps := ["names", "thing"]) fun _ _ _ _ _ _ us hl => match us, hl with | [_, _], _ => rfl
  have g116 := PySem.W.mg_of X G a116
  have F117 := fun_mk (st := sRestsIn) l117 c117 k117
  have b117 := F117.binds (ps := ["photo"]) fun _ _ _ _ _ _ us hl => match us, hl with | [_], _ => rfl
  have g117 := PySem.W.mg_of X G a117
  have F118 := fun_mk (st := sTurnedBy) l118 c118 k118
  have b118 := F118.binds (ps := ["photo", "many"]) fun _ _ _ _ _ _ us hl => match us, hl with | [_, _], _ => rfl
  have g118 := PySem.W.mg_of X G a118
  have F119 := fun_mk (st := sPhotoOf) l119 c119 k119
  have b119 := F119.binds (ps := ["path", "stand"]) fun _ _ _ _ _ _ us hl => match us, hl with | [_, _], _ => rfl
  have g119 := PySem.W.mg_of X G a119
  have F120 := fun_mk (st := sIsPhotoP) l120 c120 k120
  have b120 := F120.binds (ps := ["path", "thing"]) fun _ _ _ _ _ _ us hl => match us, hl with | [_, _], _ => rfl
  have g120 := PySem.W.mg_of X G a120
  have F121 := fun_mk (st := sLapsOf) l121 c121 k121
  have b121 := F121.binds (ps := ["path", "stand"]) fun _ _ _ _ _ _ us hl => match us, hl with | [_, _], _ => rfl
  have g121 := PySem.W.mg_of X G a121
  have F122 := fun_mk (st := sStOfLaps) l122 c122 k122
  have b122 := F122.binds (ps := ["path", "photo", "laps"]) fun _ _ _ _ _ _ us hl => match us, hl with | [_, _, _], _ => rfl
  have g122 := PySem.W.mg_of X G a122
  have F123 := fun_mk (st := sPhotoTurned) l123 c123 k123
  have b123 := F123.binds (ps := ["path", "photo", "many"]) fun _ _ _ _ _ _ us hl => match us, hl with | [_, _, _], _ => rfl
  have g123 := PySem.W.mg_of X G a123
  have F124 := fun_mk (st := sCell) l124 c124 k124
  have b124 := F124.binds (ps := ["script", "k"]) fun _ _ _ _ _ _ us hl => match us, hl with | [_, _], _ => rfl
  have g124 := PySem.W.mg_of X G a124
  have F125 := fun_mk (st := sSource) l125 c125 k125
  have b125 := F125.binds (ps := ["script", "k"]) fun _ _ _ _ _ _ us hl => match us, hl with | [_, _], _ => rfl
  have g125 := PySem.W.mg_of X G a125
  have F126 := fun_mk (st := sDrawB) l126 c126 k126
  have b126 := F126.binds (ps := ["source", "many"]) fun _ _ _ _ _ _ us hl => match us, hl with | [_, _], _ => rfl
  have g126 := PySem.W.mg_of X G a126
  have F127 := fun_mk (st := sPickB) l127 c127 k127
  have b127 := F127.binds (ps := ["source", "some"]) fun _ _ _ _ _ _ us hl => match us, hl with | [_, _], _ => rfl
  have g127 := PySem.W.mg_of X G a127
  have F128 := fun_mk (st := sMixedB) l128 c128 k128
  have b128 := F128.binds (ps := ["source", "some"]) fun _ _ _ _ _ _ us hl => match us, hl with | [_, _], _ => rfl
  have g128 := PySem.W.mg_of X G a128
  have F129 := fun_mk (st := sSameB) l129 c129 k129
  have b129 := F129.binds (ps := ["found", "wanted"]) fun _ _ _ _ _ _ us hl => match us, hl with | [_, _], _ => rfl
  have g129 := PySem.W.mg_of X G a129
  have F130 := fun_mk (st := sWNames) l130 c130 k130
  have b130 := F130.binds (ps := ["source", "many"]) fun _ _ _ _ _ _ us hl => match us, hl with | [_, _], _ => rfl
  have g130 := PySem.W.mg_of X G a130
  have F131 := fun_mk (st := sWPath) l131 c131 k131
  have b131 := F131.binds (ps := ["source", "names"]) fun _ _ _ _ _ _ us hl => match us, hl with | [_, _], _ => rfl
  have g131 := PySem.W.mg_of X G a131
  have F132 := fun_mk (st := sWPlaces) l132 c132 k132
  have b132 := F132.binds (ps := ["source", "many", "far"]) fun _ _ _ _ _ _ us hl => match us, hl with | [_, _, _], _ => rfl
  have g132 := PySem.W.mg_of X G a132
  have F133 := fun_mk (st := sWFar) l133 c133 k133
  have b133 := F133.binds (ps := ["source"]) fun _ _ _ _ _ _ us hl => match us, hl with | [_], _ => rfl
  have g133 := PySem.W.mg_of X G a133
  have F134 := fun_mk (st := sWDict) l134 c134 k134
  have b134 := F134.binds (ps := ["names", "row"]) fun _ _ _ _ _ _ us hl => match us, hl with | [_, _], _ => rfl
  have g134 := PySem.W.mg_of X G a134
  have F135 := fun_mk (st := sWHand) l135 c135 k135
  have b135 := F135.binds (ps := ["source", "thing"]) fun _ _ _ _ _ _ us hl => match us, hl with | [_, _], _ => rfl
  have g135 := PySem.W.mg_of X G a135
  have F136 := fun_mk (st := sOddSt) l136 c136 k136
  have b136 := F136.binds (ps := ["names", "stand"]) fun _ _ _ _ _ _ us hl => match us, hl with | [_, _], _ => rfl
  have g136 := PySem.W.mg_of X G a136
  have F137 := fun_mk (st := sOddPa) l137 c137 k137
  have b137 := F137.binds (ps := ["names"]) fun _ _ _ _ _ _ us hl => match us, hl with | [_], _ => rfl
  have g137 := PySem.W.mg_of X G a137
  have F138 := fun_mk (st := sWLap) l138 c138 k138
  have b138 := F138.binds (ps := ["source", "far"]) fun _ _ _ _ _ _ us hl => match us, hl with | [_, _], _ => rfl
  have g138 := PySem.W.mg_of X G a138
  have F139 := fun_mk (st := sWPhoto) l139 c139 k139
  have b139 := F139.binds (ps := ["names", "row"]) fun _ _ _ _ _ _ us hl => match us, hl with | [_, _], _ => rfl
  have g139 := PySem.W.mg_of X G a139
  have F140 := fun_mk (st := sOddPh) l140 c140 k140
  have b140 := F140.binds (ps := ["names"]) fun _ _ _ _ _ _ us hl => match us, hl with | [_], _ => rfl
  have g140 := PySem.W.mg_of X G a140
  have F141 := fun_mk (st := sMet) l141 c141 k141
  have b141 := F141.binds (ps := ["ask"]) fun _ _ _ _ _ _ us hl => match us, hl with | [_], _ => rfl
  have g141 := PySem.W.mg_of X G a141
  have F142 := fun_mk (st := sStandsR) l142 c142 k142
  have b142 := F142.binds (ps := ["source", "many"]) fun _ _ _ _ _ _ us hl => match us, hl with | [_, _], _ => rfl
  have g142 := PySem.W.mg_of X G a142
  have F143 := fun_mk (st := sOddsR) l143 c143 k143
  have b143 := F143.binds (ps := ["source"]) fun _ _ _ _ _ _ us hl => match us, hl with | [_], _ => rfl
  have g143 := PySem.W.mg_of X G a143
  have F144 := fun_mk (st := sLaw) l144 c144 k144
  have b144 := F144.binds (ps := ["script"]) fun _ _ _ _ _ _ us hl => match us, hl with | [_], _ => rfl
  have g144 := PySem.W.mg_of X G a144
  refine ⟨ct_119, Pt_119, ct_143, Pt_143, PySem.W.fnOf "law" "law" (defArgs sLaw) (defBody sLaw) (defScope sLaw) .none kV144 dc144 pm144 an144 cd144 ct144, tb_119, tb_143, tbn_119, tbn_143, fun s v => .of_eq rfl, fun base hKb hNs mods TB0 TB1 => ?_⟩
  have hu0 : ∀ p ∈ ([(Pt_119, qLamP), (Pt_143, qLam)] : List (Addr × Str)), p.1 = Pt_119 → p.2 = qLamP := fun p hp e => by
    simp only [List.mem_cons, List.not_mem_nil, or_false] at hp
    rcases hp with rfl | rfl
    · rfl
    · exact absurd e (Ne.symm un0_1)
  have hu1 : ∀ p ∈ ([(Pt_119, qLamP), (Pt_143, qLam)] : List (Addr × Str)), p.1 = Pt_143 → p.2 = qLam := fun p hp e => by
    simp only [List.mem_cons, List.not_mem_nil, or_false] at hp
    rcases hp with rfl | rfl
    · exact absurd e un0_1
    · rfl
  have GI : FnOk P w K mg base (L2.CX P w) 2 f111 _ ["self", "walkers"] (spInit K C C50) := ok_init F111 B T F103 b103 g103 F105 b105 g105
  have MI : Mk K C f111 := ⟨mk, a111, i111, kc⟩
  have MW : Meth K C "walkers" f112 := ⟨a112, i112, k112⟩
  have G101 : FnOk P w K mg base CX0 1 f101 _ ["thing"] (spIsInt K) := ok_isInt F101 B
  have G102 : FnOk P w K mg base CX0 2 f102 _ ["thing"] (spIsNumber K) := ok_isNumber F102 G101 b101 g101 k101
  have G103 : FnOk P w K mg base CX0 1 f103 _ ["thing"] (spIsList K) := ok_isList F103 B
  have G106 : FnOk P w K mg base CX0 1 f106 _ ["names", "thing"] (spIsWalker K) := ok_isWalker F106 B
  have G108 : FnOk P w K mg base CX0 2 f108 _ ["names", "things"] (spStrangerK K) := ok_stranger F108 B G106 b106 g106 k106
  have G104 : FnOk P w K mg base CX0 2 f104 _ ["many", "thing"] (spListOfG K) := ok_listOfG F104 B G103 b103 g103 k103
  have G116 : FnOk P w K mg base CX0 3 f116 _ ["names", "thing"] (spIsPhoto K) := ok_isPhoto F116 B G108 b108 g108 k108 G104 b104 g104 k104
  have G107 : FnOk P w K mg base CX0 2 f107 _ ["keys", "thing", "is_right"] (spDictOf K f101) := ok_dictOf F107 B F101 b101
  have G109 : FnOk P w K mg base CX0 3 f109 _ ["names", "thing"] (spStanding K) := ok_standing F109 B Z_sum F101 b101 g101 F107 b107 g107
  have G110 : FnOk P w K mg base (L2.CX P w) 4 f110 _ ["names", "stand"] (spNeedSt K C52) := ok_needSt F110 E52 G109 b109 g109 k109
  have G114 : FnOk P w K mg base (L2.CX P w) 2 f114 _ ["path"] (spWalkersOf K C C51) := ok_walkersOf F114 B T T1 E51 F112 b112 MW
  have G115 : FnOk P w K mg base (L2.CX P w) 4 f115 _ ["names", "photo"] (spNeedPhoto K C53) := ok_needPhoto F115 E53 G116 b116 g116 k116
  have G117 : FnOk P w K mg base CX0 1 f117 _ ["photo"] spRestsIn := ok_restsIn F117 B
  have G118 : FnOk P w K mg base CX0 1 f118 _ ["photo", "many"] spTurnedBy := ok_turnedBy F118 B
  have G119 : FnOk P w K mg base (L2.CX P w) 5 f119 _ ["path", "stand"] (spPhotoOf K C C51 C52 [(Pt_119, qLamP), (Pt_143, qLam)]) := ok_photoOf l119 c119 B Z_sorted TB0 List.mem_cons_self hu0 G110 b110 g110 k110 G114 b114 g114 k114
  have G120 : FnOk P w K mg base (L2.CX P w) 5 f120 _ ["path", "thing"] (spIsPhotoP K C C51) := ok_isPhotoP F120 G116 b116 g116 k116 G114 b114 g114 k114
  have G121 : FnOk P w K mg base (L2.CX P w) 5 f121 _ ["path", "stand"] (spLapsOf K C C51 C52) := ok_lapsOf F121 B G110 b110 g110 k110 G114 b114 g114 k114
  have G122 : FnOk P w K mg base (L2.CX P w) 5 f122 _ ["path", "photo", "laps"] (spStOfLaps K C C51 C53 C54) := ok_stOfLaps F122 B Z_sum E54 g101 G117 b117 g117 k117 G107 b107 g107 k107 G115 b115 g115 k115 G114 b114 g114 k114
  have G123 : FnOk P w K mg base (L2.CX P w) 5 f123 _ ["path", "photo", "many"] (spPhotoTurned K C C51 C53 C55) := ok_photoTurned F123 B E55 G118 b118 g118 k118 G102 b102 g102 k102 G115 b115 g115 k115 G114 b114 g114 k114
  have G124 : FnOk P w K mg base CX0 1 f124 _ ["script", "k"] (spCell K) := ok_cell F124 B Z_sum
  have G125 : FnOk P w K mg base CX0 2 f125 _ ["script", "k"] (spSpring K) := ok_source F125 B Z_abs G124 b124 g124 k124
  have G126 : FnOk P w K mg base CX0 1 f126 _ ["source", "many"] spDraw := ok_draw F126 B
  have G127 : FnOk P w K mg base CX0 2 f127 _ ["source", "some"] spPick := ok_pick F127 B G126 b126 g126 k126
  have G128 : FnOk P w K mg base CX0 2 f128 _ ["source", "some"] spMixed := ok_mixed F128 B G126 b126 g126 k126
  have G129a : FnOk P w K mg base CX0 5 f129 _ ["found", "wanted"] (spSame 4) := ok_same F129 B b129 g129 4
  have G129c : FnOk P w K mg base CX0 9 f129 _ ["found", "wanted"] (spSame 8) := ok_same F129 B b129 g129 8
  have G130 : FnOk P w K mg base CX0 3 f130 _ ["source", "many"] spNames := ok_names F130 G128 b128 g128 k128
  have G131 : FnOk P w K mg base CX0 4 f131 _ ["source", "names"] (spWPath C) := ok_wpath F131 B T GI b111 MI G127 b127 g127 k127
  have G133 : FnOk P w K mg base CX0 3 f133 _ ["source"] spWFar := ok_wfar F133 G127 b127 g127 k127
  have G138 : FnOk P w K mg base CX0 2 f138 _ ["source", "far"] spWLap := ok_wlap F138 G126 b126 g126 k126
  have G132 : FnOk P w K mg base CX0 3 f132 _ ["source", "many", "far"] spWPlaces := ok_wplaces F132 B Z_sum G138 b138 g138 k138 G128 b128 g128 k128
  have G135 : FnOk P w K mg base CX0 3 f135 _ ["source", "thing"] spHandK := ok_handK F135 B G128 b128 g128 k128
  have G134 : FnOk P w K mg base CX0 1 f134 _ ["names", "row"] spWDict := ok_wdict F134 B
  have G139 : FnOk P w K mg base CX0 1 f139 _ ["names", "row"] spWPhoto := ok_wPhoto F139 B
  have G137 : FnOk P w K mg base CX0 1 f137 _ ["names"] (spOddPa K) := ok_oddPa F137 B
  have G136 : FnOk P w K mg base CX0 1 f136 _ ["names", "stand"] (spOddSt K) := ok_oddSt F136 B
  have G140 : FnOk P w K mg base CX0 1 f140 _ ["names"] (spOddPh K) := ok_oddPh F140 B
  have G142 : FnG P w K mg base CX0 6 f142 _ ["source", "many"] (spStandsR [(Pt_119, qLamP), (Pt_143, qLam)]) := ok_standsR F142 B Z_repr Z_sum mods G129a b129 g129 k129 G123 b123 g123 k123 (kb_photoTurned F123) G126 b126 g126 k126 G122 b122 g122 k122 (kb_stOfLaps F122) G127 b127 g127 k127 G135 b135 g135 k135 G119 b119 g119 k119 kb_photoOf G121 b121 g121 k121 (kb_lapsOf F121) G120 b120 g120 k120 G139 b139 g139 k139 G134 b134 g134 k134 G131 b131 g131 k131 G132 b132 g132 k132 G130 b130 g130 k130 G133 b133 g133 k133
  have G143 : FnOk P w K mg base CX0 10 f143 _ ["source"] (spOddsR [(Pt_119, qLamP), (Pt_143, qLam)]) := ok_oddsR l143 c143 B TB1 (List.mem_cons_of_mem _ List.mem_cons_self) hu1 E51 E52 E53 E54 E55 y1 y2 y3 y4 y5 y6 y7 y8 y9 y10 F141 b141 g141 k141 G119 b119 g119 k119 G121 b121 g121 k121 G122 b122 g122 k122 G123 b123 g123 k123 G129c b129 g129 k129 G134 b134 g134 k134 G140 b140 g140 k140 G120 b120 g120 k120 G136 b136 g136 k136 G137 b137 g137 k137 G139 b139 g139 k139 G131 b131 g131 k131 G132 b132 g132 k132 G130 b130 g130 k130 G126 b126 g126 k126
  exact ok_law F144 B G142 b142 g142 k142 G125 b125 g125 k125 G143 b143 g143 k143 G126 b126 g126 k126
theorem walk {l : PySem.W.OpenLaw} {q : Program} {loose : List Str} {XP : (Str → Option Value) → Heap → Prop} {YP : World → Heap → Prop} {d : DefRec} {K : Params → PySem.W.Frag} (hn : l.most = some 63) (hdf : d.params.defaults = [])
    (hY : ∀ (w : World) (h : Heap), YP w h → (K w.params).In h) (imp : PyProof.Rows.importsNone q = true) (rec0_ : ((PyProof.Rows.recsOf q).any fun e => e.name == ("photo_of" : Str)) = true) (rec1_ : ((PyProof.Rows.recsOf q).any fun e => e.name == ("_law_odds_right" : Str)) = true)
    (F : ∀ (w : World) (mg : Str → Option Value) (fa : Addr) (h : Heap), (K w.params).In h → h.Ns mainGlobals mg → mg d.name = some (.ref fa) →
      ∃ (c0_ Pt0_ c1_ Pt1_ : Addr) (fd : FuncData), PySem.W.tabIn (K w.params) "photo_of" = some (c0_, Pt0_) ∧ PySem.W.tabIn (K w.params) "_law_odds_right" = some (c1_, Pt1_) ∧ (K w.params).lookup Pt0_ = none ∧ (K w.params).lookup Pt1_ = none ∧ (∀ (s : Shared) (u : Value), BindsTo s fd ⟨[u], []⟩ [("script", u)]) ∧ ∀ base : Heap, (K w.params).In base → base.Ns mainGlobals mg → (∃ mm, base.Ns sysModules mm) → TabB base mg c0_ Pt0_ → TabB base mg c1_ Pt1_ → FnG l.prog w (K w.params) mg base CX0 11 fa fd ["script"] (spLaw (K w.params) [(Pt0_, qLamP), (Pt1_, qLam)])) :
    PySem.W.WalkO q loose XP YP l.row.toRowW d [] (fun f vs => PySem.call f vs) := by
  refine walk_guarded (n := 63) (k := 11) (x := "script") (CX := fun _ => CX0) imp hn (by decide) hdf ⟨rfl, by decide, by decide⟩ rfl hY (fun w mg fa h Y KX G hmg tb => ?_) fun _ _ _ _ _ z => z
  obtain ⟨c0_, Pt0_, c1_, Pt1_, fd, h0_, h1_, n0_, n1_, h3, h4⟩ := F w mg fa h KX G hmg
  obtain ⟨t0_, u0_⟩ := tb _ c0_ Pt0_ rec0_ h0_
  obtain ⟨t1_, u1_⟩ := tb _ c1_ Pt1_ rec1_ h1_
  have two : ∀ {p : Addr × Addr}, p ∈ [(c0_, Pt0_), (c1_, Pt1_)] → p = (c0_, Pt0_) ∨ p = (c1_, Pt1_) := fun hp => by simpa using hp
  refine ⟨fd, [(c0_, Pt0_), (c1_, Pt1_)], spLaw (K w.params) [(Pt0_, qLamP), (Pt1_, qLam)], fun q hq => ?_, fun q hq => ?_, fun q hq => ?_, h3, fun H a ns hl _ hT hS => ⟨a, ns, rfl, hS, hl, fun p hp => ?_, fun _ => rfl⟩, fun base b1 b2 bm b3 => h4 base b1 b2 bm (b3 (c0_, Pt0_) List.mem_cons_self) (b3 (c1_, Pt1_) (List.mem_cons_of_mem _ List.mem_cons_self))⟩
  · rcases two hq with e | e
    · rw [e]; exact u0_
    · rw [e]; exact u1_
  · rcases two hq with e | e
    · rw [e]; exact n0_
    · rw [e]; exact n1_
  · rcases two hq with e | e
    · rw [e]; exact t0_
    · rw [e]; exact t1_
  · simp only [List.mem_cons, List.not_mem_nil, or_false] at hp
    rcases hp with rfl | rfl
    · exact TabS.nil (hT (c0_, Pt0_) List.mem_cons_self)
    · exact TabS.nil (hT (c1_, Pt1_) (List.mem_cons_of_mem _ List.mem_cons_self))
end RK

open PySem PySem.W PyProof.Rows
set_option maxRecDepth 100000 in
set_option maxHeartbeats 0 in
theorem PySem.Challenge.cw_ringwalkers_k45_whole_photos_and_laps_holds : PySem.Challenge.rw_ringwalkers_k45_whole_photos_and_laps.Holds := by
  w_on; o_law; k_head; (case hw => w_witness2)
  k_fill
  refine RK.walk (l := PySem.Challenge.rw_ringwalkers_k45_whole_photos_and_laps) rfl rfl (fun w h Y => PySem.W.km_in_of Y) ?I ?R0 ?R1 ?F
  case I => first | rfl | decide +kernel
  case R0 => first | rfl | decide +kernel
  case R1 => first | rfl | decide +kernel
  case F =>
    intro w mg fa h KX G hmg
    refine' RK.all_mk KX G hmg ?aC ?a50 ?xi50C ?a51 ?xi51C ?a52 ?xi52C ?a53 ?xi53C ?a54 ?xi54C ?a55 ?xi55C ?a101 ?l101 ?c101 ?k101 ?a102 ?l102 ?c102 ?k102 ?a103 ?l103 ?c103 ?k103 ?a104 ?l104 ?c104 ?k104 ?a105 ?l105 ?c105 ?k105 ?a106 ?l106 ?c106 ?k106 ?a107 ?l107 ?c107 ?k107 ?a108 ?l108 ?c108 ?k108 ?a109 ?l109 ?c109 ?k109 ?a110 ?l110 ?c110 ?k110 ?a111 ?i111 ?l111 ?c111 ?k111 ?a112 ?i112 ?l112 ?c112 ?k112 ?a113 ?i113 ?l113 ?c113 ?k113 ?a114 ?l114 ?c114 ?k114 ?a115 ?l115 ?c115 ?k115 ?a116 ?l116 ?c116 ?k116 ?a117 ?l117 ?c117 ?k117 ?a118 ?l118 ?c118 ?k118 ?a119 ?l119 ?c119 ?k119 ?a120 ?l120 ?c120 ?k120 ?a121 ?l121 ?c121 ?k121 ?a122 ?l122 ?c122 ?k122 ?a123 ?l123 ?c123 ?k123 ?a124 ?l124 ?c124 ?k124 ?a125 ?l125 ?c125 ?k125 ?a126 ?l126 ?c126 ?k126 ?a127 ?l127 ?c127 ?k127 ?a128 ?l128 ?c128 ?k128 ?a129 ?l129 ?c129 ?k129 ?a130 ?l130 ?c130 ?k130 ?a131 ?l131 ?c131 ?k131 ?a132 ?l132 ?c132 ?k132 ?a133 ?l133 ?c133 ?k133 ?a134 ?l134 ?c134 ?k134 ?a135 ?l135 ?c135 ?k135 ?a136 ?l136 ?c136 ?k136 ?a137 ?l137 ?c137 ?k137 ?a138 ?l138 ?c138 ?k138 ?a139 ?l139 ?c139 ?k139 ?a140 ?l140 ?c140 ?k140 ?a141 ?l141 ?c141 ?k141 ?a142 ?l142 ?c142 ?k142 ?a143 ?l143 ?c143 ?k143 ?a144 ?l144 ?c144 ?k144 ?lct_119 ?v11_119 ?tbn_119 ?lct_143 ?v11_143 ?tbn_143 ?un0_1 ?pg ?hd ?po ?sa ?mk ?kc ?nN ?cls1 ?spec ?tak ?mo ?icC ?tyC ?neF ?z_isinstance ?z_list ?z_tuple ?z_str ?z_len ?z_all ?z_any ?z_enumerate ?z_int ?z_range ?z_dict ?z_bool ?z_zip ?z_sum ?z_repr ?z_abs ?z_sorted ?v1 ?v2 ?v3 ?xtp ?xgS ?xtop ?xL50 ?xR50 ?xi50 ?xs50 ?xV50 ?xM50 ?xsa50 ?xga50 ?xgg50 ?xno50 ?xtC50 ?xkC50 ?xeC50 ?xyC50 ?xhC50 ?xic50 ?xss50 ?le50 ?ce50 ?x150 ?x250 ?x350 ?x450 ?xL51 ?xR51 ?xi51 ?xs51 ?xV51 ?xM51 ?xsa51 ?xga51 ?xgg51 ?xno51 ?xtC51 ?xkC51 ?xeC51 ?xyC51 ?xhC51 ?xic51 ?xss51 ?le51 ?ce51 ?x151 ?x251 ?x351 ?x451 ?xL52 ?xR52 ?xi52 ?xs52 ?xV52 ?xM52 ?xsa52 ?xga52 ?xgg52 ?xno52 ?xtC52 ?xkC52 ?xeC52 ?xyC52 ?xhC52 ?xic52 ?xss52 ?le52 ?ce52 ?x152 ?x252 ?x352 ?x452 ?xL53 ?xR53 ?xi53 ?xs53 ?xV53 ?xM53 ?xsa53 ?xga53 ?xgg53 ?xno53 ?xtC53 ?xkC53 ?xeC53 ?xyC53 ?xhC53 ?xic53 ?xss53 ?le53 ?ce53 ?x153 ?x253 ?x353 ?x453 ?xL54 ?xR54 ?xi54 ?xs54 ?xV54 ?xM54 ?xsa54 ?xga54 ?xgg54 ?xno54 ?xtC54 ?xkC54 ?xeC54 ?xyC54 ?xhC54 ?xic54 ?xss54 ?le54 ?ce54 ?x154 ?x254 ?x354 ?x454 ?xL55 ?xR55 ?xi55 ?xs55 ?xV55 ?xM55 ?xsa55 ?xga55 ?xgg55 ?xno55 ?xtC55 ?xkC55 ?xeC55 ?xyC55 ?xhC55 ?xic55 ?xss55 ?le55 ?ce55 ?x155 ?x255 ?x355 ?x455 ?y1 ?y2 ?y3 ?y4 ?y5 ?y6 ?y7 ?y8 ?y9 ?y10
    (case aC => k_is)
    (case a50 => k_is)
    (case xi50C => k_is)
    (case a51 => k_is)
    (case xi51C => k_is)
    (case a52 => k_is)
    (case xi52C => k_is)
    (case a53 => k_is)
    (case xi53C => k_is)
    (case a54 => k_is)
    (case xi54C => k_is)
    (case a55 => k_is)
    (case xi55C => k_is)
    (case a101 => k_is)
    (case l101 => k_is)
    (case c101 => k_is)
    (case k101 => k_is)
    (case a102 => k_is)
    (case l102 => k_is)
    (case c102 => k_is)
    (case k102 => k_is)
    (case a103 => k_is)
    (case l103 => k_is)
    (case c103 => k_is)
    (case k103 => k_is)
    (case a104 => k_is)
    (case l104 => k_is)
    (case c104 => k_is)
    (case k104 => k_is)
    (case a105 => k_is)
    (case l105 => k_is)
    (case c105 => k_is)
    (case k105 => k_is)
    (case a106 => k_is)
    (case l106 => k_is)
    (case c106 => k_is)
    (case k106 => k_is)
    (case a107 => k_is)
    (case l107 => k_is)
    (case c107 => k_is)
    (case k107 => k_is)
    (case a108 => k_is)
    (case l108 => k_is)
    (case c108 => k_is)
    (case k108 => k_is)
    (case a109 => k_is)
    (case l109 => k_is)
    (case c109 => k_is)
    (case k109 => k_is)
    (case a110 => k_is)
    (case l110 => k_is)
    (case c110 => k_is)
    (case k110 => k_is)
    (case a111 => k_is)
    (case i111 => k_is)
    (case l111 => k_is)
    (case c111 => k_is)
    (case k111 => k_is)
    (case a112 => k_is)
    (case i112 => k_is)
    (case l112 => k_is)
    (case c112 => k_is)
    (case k112 => k_is)
    (case a113 => k_is)
    (case i113 => k_is)
    (case l113 => k_is)
    (case c113 => k_is)
    (case k113 => k_is)
    (case a114 => k_is)
    (case l114 => k_is)
    (case c114 => k_is)
    (case k114 => k_is)
    (case a115 => k_is)
    (case l115 => k_is)
    (case c115 => k_is)
    (case k115 => k_is)
    (case a116 => k_is)
    (case l116 => k_is)
    (case c116 => k_is)
    (case k116 => k_is)
    (case a117 => k_is)
    (case l117 => k_is)
    (case c117 => k_is)
    (case k117 => k_is)
    (case a118 => k_is)
    (case l118 => k_is)
    (case c118 => k_is)
    (case k118 => k_is)
    (case a119 => k_is)
    (case l119 => k_is)
    (case c119 => k_is)
    (case k119 => k_is)
    (case a120 => k_is)
    (case l120 => k_is)
    (case c120 => k_is)
    (case k120 => k_is)
    (case a121 => k_is)
    (case l121 => k_is)
    (case c121 => k_is)
    (case k121 => k_is)
    (case a122 => k_is)
    (case l122 => k_is)
    (case c122 => k_is)
    (case k122 => k_is)
    (case a123 => k_is)
    (case l123 => k_is)
    (case c123 => k_is)
    (case k123 => k_is)
    (case a124 => k_is)
    (case l124 => k_is)
    (case c124 => k_is)
    (case k124 => k_is)
    (case a125 => k_is)
    (case l125 => k_is)
    (case c125 => k_is)
    (case k125 => k_is)
    (case a126 => k_is)
    (case l126 => k_is)
    (case c126 => k_is)
    (case k126 => k_is)
    (case a127 => k_is)
    (case l127 => k_is)
    (case c127 => k_is)
    (case k127 => k_is)
    (case a128 => k_is)
    (case l128 => k_is)
    (case c128 => k_is)
    (case k128 => k_is)
    (case a129 => k_is)
    (case l129 => k_is)
    (case c129 => k_is)
    (case k129 => k_is)
    (case a130 => k_is)
    (case l130 => k_is)
    (case c130 => k_is)
    (case k130 => k_is)
    (case a131 => k_is)
    (case l131 => k_is)
    (case c131 => k_is)
    (case k131 => k_is)
    (case a132 => k_is)
    (case l132 => k_is)
    (case c132 => k_is)
    (case k132 => k_is)
    (case a133 => k_is)
    (case l133 => k_is)
    (case c133 => k_is)
    (case k133 => k_is)
    (case a134 => k_is)
    (case l134 => k_is)
    (case c134 => k_is)
    (case k134 => k_is)
    (case a135 => k_is)
    (case l135 => k_is)
    (case c135 => k_is)
    (case k135 => k_is)
    (case a136 => k_is)
    (case l136 => k_is)
    (case c136 => k_is)
    (case k136 => k_is)
    (case a137 => k_is)
    (case l137 => k_is)
    (case c137 => k_is)
    (case k137 => k_is)
    (case a138 => k_is)
    (case l138 => k_is)
    (case c138 => k_is)
    (case k138 => k_is)
    (case a139 => k_is)
    (case l139 => k_is)
    (case c139 => k_is)
    (case k139 => k_is)
    (case a140 => k_is)
    (case l140 => k_is)
    (case c140 => k_is)
    (case k140 => k_is)
    (case a141 => k_is)
    (case l141 => k_is)
    (case c141 => k_is)
    (case k141 => k_is)
    (case a142 => k_is)
    (case l142 => k_is)
    (case c142 => k_is)
    (case k142 => k_is)
    (case a143 => k_is)
    (case l143 => k_is)
    (case c143 => k_is)
    (case k143 => k_is)
    (case a144 => k_is)
    (case l144 => k_is)
    (case c144 => k_is)
    (case k144 => k_is)
    (case lct_119 => k_is)
    (case v11_119 => first | rfl | decide +kernel)
    (case tbn_119 => first | k_is | kernel_rfl | decide +kernel | rfl)
    (case lct_143 => k_is)
    (case v11_143 => first | rfl | decide +kernel)
    (case tbn_143 => first | k_is | kernel_rfl | decide +kernel | rfl)
    (case un0_1 => first | decide | decide +kernel)
    (case pg => k_is)
    (case hd => k_is)
    (case po => k_is)
    (case sa => k_is)
    (case mk => k_is)
    (case kc => k_is)
    (case nN => k_is)
    (case cls1 => k_is)
    (case spec => first | k_is | rfl)
    (case tak => first | k_is | rfl)
    (case mo => k_is)
    (case icC => k_is)
    (case tyC => k_is)
    (case neF => k_is)
    (case z_isinstance => k_is)
    (case z_list => k_is)
    (case z_tuple => k_is)
    (case z_str => k_is)
    (case z_len => k_is)
    (case z_all => k_is)
    (case z_any => k_is)
    (case z_enumerate => k_is)
    (case z_int => k_is)
    (case z_range => k_is)
    (case z_dict => k_is)
    (case z_bool => k_is)
    (case z_zip => k_is)
    (case z_sum => k_is)
    (case z_repr => k_is)
    (case z_abs => k_is)
    (case z_sorted => k_is)
    (case v1 => k_is)
    (case v2 => k_is)
    (case v3 => k_is)
    (case xtp => first | k_is | kernel_rfl)
    (case xgS => k_is)
    (case xtop => first | rfl | decide +kernel)
    (case xL50 => k_is)
    (case xR50 => first | rfl | decide +kernel)
    (case xi50 => first | k_is | kernel_rfl | decide +kernel)
    (case xs50 => first | ks_is | k_is)
    (case xV50 => k_is)
    (case xM50 => k_is)
    (case xsa50 => k_is)
    (case xga50 => k_is)
    (case xgg50 => k_is)
    (case xno50 => k_is)
    (case xtC50 => k_is)
    (case xkC50 => k_is)
    (case xeC50 => k_is)
    (case xyC50 => k_is)
    (case xhC50 => k_is)
    (case xic50 => k_is)
    (case xss50 => first | rfl | k_is)
    (case le50 => k_is)
    (case ce50 => k_is)
    (case x150 => k_is)
    (case x250 => first | rfl | decide +kernel)
    (case x350 => first | rfl | decide +kernel)
    (case x450 => k_is)
    (case xL51 => k_is)
    (case xR51 => first | rfl | decide +kernel)
    (case xi51 => first | k_is | kernel_rfl | decide +kernel)
    (case xs51 => first | ks_is | k_is)
    (case xV51 => k_is)
    (case xM51 => k_is)
    (case xsa51 => k_is)
    (case xga51 => k_is)
    (case xgg51 => k_is)
    (case xno51 => k_is)
    (case xtC51 => k_is)
    (case xkC51 => k_is)
    (case xeC51 => k_is)
    (case xyC51 => k_is)
    (case xhC51 => k_is)
    (case xic51 => k_is)
    (case xss51 => first | rfl | k_is)
    (case le51 => k_is)
    (case ce51 => k_is)
    (case x151 => k_is)
    (case x251 => first | rfl | decide +kernel)
    (case x351 => first | rfl | decide +kernel)
    (case x451 => k_is)
    (case xL52 => k_is)
    (case xR52 => first | rfl | decide +kernel)
    (case xi52 => first | k_is | kernel_rfl | decide +kernel)
    (case xs52 => first | ks_is | k_is)
    (case xV52 => k_is)
    (case xM52 => k_is)
    (case xsa52 => k_is)
    (case xga52 => k_is)
    (case xgg52 => k_is)
    (case xno52 => k_is)
    (case xtC52 => k_is)
    (case xkC52 => k_is)
    (case xeC52 => k_is)
    (case xyC52 => k_is)
    (case xhC52 => k_is)
    (case xic52 => k_is)
    (case xss52 => first | rfl | k_is)
    (case le52 => k_is)
    (case ce52 => k_is)
    (case x152 => k_is)
    (case x252 => first | rfl | decide +kernel)
    (case x352 => first | rfl | decide +kernel)
    (case x452 => k_is)
    (case xL53 => k_is)
    (case xR53 => first | rfl | decide +kernel)
    (case xi53 => first | k_is | kernel_rfl | decide +kernel)
    (case xs53 => first | ks_is | k_is)
    (case xV53 => k_is)
    (case xM53 => k_is)
    (case xsa53 => k_is)
    (case xga53 => k_is)
    (case xgg53 => k_is)
    (case xno53 => k_is)
    (case xtC53 => k_is)
    (case xkC53 => k_is)
    (case xeC53 => k_is)
    (case xyC53 => k_is)
    (case xhC53 => k_is)
    (case xic53 => k_is)
    (case xss53 => first | rfl | k_is)
    (case le53 => k_is)
    (case ce53 => k_is)
    (case x153 => k_is)
    (case x253 => first | rfl | decide +kernel)
    (case x353 => first | rfl | decide +kernel)
    (case x453 => k_is)
    (case xL54 => k_is)
    (case xR54 => first | rfl | decide +kernel)
    (case xi54 => first | k_is | kernel_rfl | decide +kernel)
    (case xs54 => first | ks_is | k_is)
    (case xV54 => k_is)
    (case xM54 => k_is)
    (case xsa54 => k_is)
    (case xga54 => k_is)
    (case xgg54 => k_is)
    (case xno54 => k_is)
    (case xtC54 => k_is)
    (case xkC54 => k_is)
    (case xeC54 => k_is)
    (case xyC54 => k_is)
    (case xhC54 => k_is)
    (case xic54 => k_is)
    (case xss54 => first | rfl | k_is)
    (case le54 => k_is)
    (case ce54 => k_is)
    (case x154 => k_is)
    (case x254 => first | rfl | decide +kernel)
    (case x354 => first | rfl | decide +kernel)
    (case x454 => k_is)
    (case xL55 => k_is)
    (case xR55 => first | rfl | decide +kernel)
    (case xi55 => first | k_is | kernel_rfl | decide +kernel)
    (case xs55 => first | ks_is | k_is)
    (case xV55 => k_is)
    (case xM55 => k_is)
    (case xsa55 => k_is)
    (case xga55 => k_is)
    (case xgg55 => k_is)
    (case xno55 => k_is)
    (case xtC55 => k_is)
    (case xkC55 => k_is)
    (case xeC55 => k_is)
    (case xyC55 => k_is)
    (case xhC55 => k_is)
    (case xic55 => k_is)
    (case xss55 => first | rfl | k_is)
    (case le55 => k_is)
    (case ce55 => k_is)
    (case x155 => k_is)
    (case x255 => first | rfl | decide +kernel)
    (case x355 => first | rfl | decide +kernel)
    (case x455 => k_is)
    (case y1 => first | k_is | rfl | decide +kernel)
    (case y2 => first | k_is | rfl | decide +kernel)
    (case y3 => first | k_is | rfl | decide +kernel)
    (case y4 => first | k_is | rfl | decide +kernel)
    (case y5 => first | k_is | rfl | decide +kernel)
    (case y6 => first | k_is | rfl | decide +kernel)
    (case y7 => first | k_is | rfl | decide +kernel)
    (case y8 => first | k_is | rfl | decide +kernel)
    (case y9 => first | k_is | rfl | decide +kernel)
    (case y10 => first | k_is | rfl | decide +kernel)

